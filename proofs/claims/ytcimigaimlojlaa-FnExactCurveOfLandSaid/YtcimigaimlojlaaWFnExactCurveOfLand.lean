/- The walk of the law on CurveOfLand: written by a program out of the law's operations. -/
import Derived.Test.YtcimigaimlojlaaCCurveOfLand
import Derived.Deep.DeepCutAuto


namespace Go.Proofs.Ytcimigaimlojlaa
open Go.RowKit

set_option maxRecDepth 100000 in
set_option maxHeartbeats 4000000 in
theorem law_CurveOfLand (a0_0 : Int) (a0_1 : Int) (a0_2 : Option Addr) (la0_2 ca0_2 : Nat) (xa0_2 : List Int) (a1 : Int) (a2 : Int) (a3 : Int) (w : World) (ha0_0 : (Lit.int .i64 a0_0).wf = true) (ha0_1 : (Lit.int .i64 a0_1).wf = true) (ha0_2 : la0_2 ≤ 1048576) (ra0_2 : Rd w w.heap.size a0_2 la0_2 xa0_2) (fa0_2 : Wf xa0_2) (ha1 : (Lit.int .i64 a1).wf = true) (ha2 : (Lit.int .i64 a2).wf = true) (ha3 : (Lit.int .i64 a3).wf = true) (htot : la0_2 ≤ 1048576) :
    Calls Try.prog 8 #[.agg #[.int .i64 a0_0, .int .i64 a0_1, .slice a0_2 la0_2 ca0_2], .int .i64 a1, .int .i64 a2, .int .i64 a3] w fun e w' => e = .returned (.bool true) ∧ Below w.heap.size w w' := by
  have er2_CurveOfLand : ((r2_CurveOfLand a0_0 a0_1 xa0_2 a1 a2 a3) != (r2_CurveOfLand a0_0 a0_1 xa0_2 a1 a2 a3)) = false := by simp
  have hl_r0_CurveOfLand := len_r0_CurveOfLand a0_0 a0_1 xa0_2 a1 a2 a3
  have hl_r1_CurveOfLand := len_r1_CurveOfLand a0_0 a0_1 xa0_2 a1 a2 a3
  go_enter Try.func8, Try.ntmps8
  go_wp2_with fail
  refine (szLand_ok _ _ _ _ _ _ _ (by omega) (by omega)).mono ?_
  rintro e1 W1 ⟨rfl, b1⟩
  obtain ⟨k1, _⟩ := bcell b1
  have s1 : w.heap.size + 1 ≤ W1.heap.size := by have := b1.size; (try simp at this); omega
  have d1 : Below w.heap.size w W1 := (by repeat (first | assumption | exact Below.refl _ _ | (refine Below.trans ?_ (b1.mono (by first | omega | (simp; done) | (simp; omega)))) | (refine Below.setCell ?_ (by first | omega | (simp; done) | (simp; omega)) _) | apply below_drewN | apply Below.drew | (refine Below.alloc ?_ (by first | omega | (simp; done) | (simp; omega)) _)))
  have D1 : Below w.heap.size w W1 := (d1.mono (by omega))
  have y1_4_0 : W1.cell? ⟨w.heap.size, 0, none⟩ = some (.int .i64 a0_0) := by rw [k1 _ _ (by first | omega | (simp; done) | (simp; omega))]; first | (simp; done) | go_simp
  have y1_4_1 : W1.cell? ⟨w.heap.size, 1, none⟩ = some (.int .i64 a0_1) := by rw [k1 _ _ (by first | omega | (simp; done) | (simp; omega))]; first | (simp; done) | go_simp
  have y1_4_2 : W1.cell? ⟨w.heap.size, 2, none⟩ = some (.slice a0_2 la0_2 ca0_2) := by rw [k1 _ _ (by first | omega | (simp; done) | (simp; omega))]; first | (simp; done) | go_simp
  have n1_4 : w.heap.size < W1.heap.size := by omega
  have q1_a0_2 : Rd W1 w.heap.size a0_2 la0_2 xa0_2 := ra0_2.below (d1.mono (by omega))
  clear k1
  go_wp2_with fail
  refine (toLand_x _ _ _ _ _ xa0_2 _ ha0_2 (Rd.mono (q1_a0_2.below (by repeat (first | assumption | exact Below.refl _ _ | (refine Below.setCell ?_ (by first | omega | (simp; done) | (simp; omega)) _) | apply below_drewN | apply Below.drew | (refine Below.alloc ?_ (by first | omega | (simp; done) | (simp; omega)) _)))) (by first | omega | (simp; done) | (simp; omega)))).mono ?_
  rintro e2 W2 ⟨A2_0, c2_0, rfl, b2, p2_0⟩
  obtain ⟨k2, _⟩ := bcell b2
  have s2 : W1.heap.size + 0 ≤ W2.heap.size := by have := b2.size; (try simp at this); omega
  have d2 : Below W1.heap.size W1 W2 := (by repeat (first | assumption | exact Below.refl _ _ | (refine Below.trans ?_ (b2.mono (by first | omega | (simp; done) | (simp; omega)))) | (refine Below.setCell ?_ (by first | omega | (simp; done) | (simp; omega)) _) | apply below_drewN | apply Below.drew | (refine Below.alloc ?_ (by first | omega | (simp; done) | (simp; omega)) _)))
  have D2 : Below w.heap.size w W2 := Below.trans D1 (d2.mono (by omega))
  have y2_4_0 : W2.cell? ⟨w.heap.size, 0, none⟩ = some (.int .i64 a0_0) := (d2.cell (p := ⟨w.heap.size, 0, none⟩) (show w.heap.size < W1.heap.size by omega)).trans y1_4_0
  have y2_4_1 : W2.cell? ⟨w.heap.size, 1, none⟩ = some (.int .i64 a0_1) := (d2.cell (p := ⟨w.heap.size, 1, none⟩) (show w.heap.size < W1.heap.size by omega)).trans y1_4_1
  have y2_4_2 : W2.cell? ⟨w.heap.size, 2, none⟩ = some (.slice a0_2 la0_2 ca0_2) := (d2.cell (p := ⟨w.heap.size, 2, none⟩) (show w.heap.size < W1.heap.size by omega)).trans y1_4_2
  have n2_4 : w.heap.size < W2.heap.size := by omega
  have q2_a0_2 : Rd W2 w.heap.size a0_2 la0_2 xa0_2 := q1_a0_2.below (d2.mono (by omega))
  clear k2 y1_4_0 y1_4_1 y1_4_2 n1_4
  have q2_A2_0 : Wr W2 (W1.heap.size + 0) A2_0 la0_2 xa0_2 := p2_0.lower (by first | omega | (simp; done) | (simp; omega))
  have t2_0 := q2_A2_0.lt
  go_wp2_with fail
  refine (specC_CurveOfLand _ _ _ _ _ xa0_2 _ _ _ _ ha0_0 ha0_1 ha0_2 (Rd.mono ((q2_A2_0.rd).below (by repeat (first | assumption | exact Below.refl _ _ | (refine Below.setCell ?_ (by first | omega | (simp; done) | (simp; omega)) _) | apply below_drewN | apply Below.drew | (refine Below.alloc ?_ (by first | omega | (simp; done) | (simp; omega)) _)))) (by first | omega | (simp; done) | (simp; omega))) fa0_2 ha1 ha2 ha3).mono ?_
  rintro e3 W3 ⟨A3_0, A3_1, c3_0, c3_1, rfl, b3, p3_0, p3_1, dis3_0_1⟩
  obtain ⟨k3, _⟩ := bcell b3
  have s3 : W2.heap.size + 0 ≤ W3.heap.size := by have := b3.size; (try simp at this); omega
  have d3 : Below W2.heap.size W2 W3 := (by repeat (first | assumption | exact Below.refl _ _ | (refine Below.trans ?_ (b3.mono (by first | omega | (simp; done) | (simp; omega)))) | (refine Below.setCell ?_ (by first | omega | (simp; done) | (simp; omega)) _) | apply below_drewN | apply Below.drew | (refine Below.alloc ?_ (by first | omega | (simp; done) | (simp; omega)) _)))
  have D3 : Below w.heap.size w W3 := Below.trans D2 (d3.mono (by omega))
  have y3_4_0 : W3.cell? ⟨w.heap.size, 0, none⟩ = some (.int .i64 a0_0) := (d3.cell (p := ⟨w.heap.size, 0, none⟩) (show w.heap.size < W2.heap.size by omega)).trans y2_4_0
  have y3_4_1 : W3.cell? ⟨w.heap.size, 1, none⟩ = some (.int .i64 a0_1) := (d3.cell (p := ⟨w.heap.size, 1, none⟩) (show w.heap.size < W2.heap.size by omega)).trans y2_4_1
  have y3_4_2 : W3.cell? ⟨w.heap.size, 2, none⟩ = some (.slice a0_2 la0_2 ca0_2) := (d3.cell (p := ⟨w.heap.size, 2, none⟩) (show w.heap.size < W2.heap.size by omega)).trans y2_4_2
  have n3_4 : w.heap.size < W3.heap.size := by omega
  have q3_a0_2 : Rd W3 w.heap.size a0_2 la0_2 xa0_2 := q2_a0_2.below (d3.mono (by omega))
  clear k3 y2_4_0 y2_4_1 y2_4_2 n2_4
  have q3_A3_0 : Wr W3 (W2.heap.size + 0) A3_0 (r0_CurveOfLand a0_0 a0_1 xa0_2 a1 a2 a3).length (r0_CurveOfLand a0_0 a0_1 xa0_2 a1 a2 a3) := p3_0.lower (by first | omega | (simp; done) | (simp; omega))
  have t3_0 := q3_A3_0.lt
  have q3_A3_1 : Wr W3 (W2.heap.size + 0) A3_1 (r1_CurveOfLand a0_0 a0_1 xa0_2 a1 a2 a3).length (r1_CurveOfLand a0_0 a0_1 xa0_2 a1 a2 a3) := p3_1.lower (by first | omega | (simp; done) | (simp; omega))
  have t3_1 := q3_A3_1.lt
  go_wp2_with fail
  refine (toLand_x _ _ _ _ _ xa0_2 _ ha0_2 (Rd.mono (q3_a0_2.below (by repeat (first | assumption | exact Below.refl _ _ | (refine Below.setCell ?_ (by first | omega | (simp; done) | (simp; omega)) _) | apply below_drewN | apply Below.drew | (refine Below.alloc ?_ (by first | omega | (simp; done) | (simp; omega)) _)))) (by first | omega | (simp; done) | (simp; omega)))).mono ?_
  rintro e4 W4 ⟨A4_0, c4_0, rfl, b4, p4_0⟩
  obtain ⟨k4, _⟩ := bcell b4
  have s4 : W3.heap.size + 1 ≤ W4.heap.size := by have := b4.size; (try simp at this); omega
  have d4 : Below W3.heap.size W3 W4 := (by repeat (first | assumption | exact Below.refl _ _ | (refine Below.trans ?_ (b4.mono (by first | omega | (simp; done) | (simp; omega)))) | (refine Below.setCell ?_ (by first | omega | (simp; done) | (simp; omega)) _) | apply below_drewN | apply Below.drew | (refine Below.alloc ?_ (by first | omega | (simp; done) | (simp; omega)) _)))
  have D4 : Below w.heap.size w W4 := Below.trans D3 (d4.mono (by omega))
  have y4_4_0 : W4.cell? ⟨w.heap.size, 0, none⟩ = some (.int .i64 a0_0) := (d4.cell (p := ⟨w.heap.size, 0, none⟩) (show w.heap.size < W3.heap.size by omega)).trans y3_4_0
  have y4_4_1 : W4.cell? ⟨w.heap.size, 1, none⟩ = some (.int .i64 a0_1) := (d4.cell (p := ⟨w.heap.size, 1, none⟩) (show w.heap.size < W3.heap.size by omega)).trans y3_4_1
  have y4_4_2 : W4.cell? ⟨w.heap.size, 2, none⟩ = some (.slice a0_2 la0_2 ca0_2) := (d4.cell (p := ⟨w.heap.size, 2, none⟩) (show w.heap.size < W3.heap.size by omega)).trans y3_4_2
  have n4_4 : w.heap.size < W4.heap.size := by omega
  have y4_10_0 : W4.cell? ⟨W3.heap.size, 0, none⟩ = some (.slice A3_0 (r0_CurveOfLand a0_0 a0_1 xa0_2 a1 a2 a3).length c3_0) := by rw [k4 _ _ (by first | omega | (simp; done) | (simp; omega))]; first | (simp; done) | go_simp
  have y4_10_1 : W4.cell? ⟨W3.heap.size, 1, none⟩ = some (.slice A3_1 (r1_CurveOfLand a0_0 a0_1 xa0_2 a1 a2 a3).length c3_1) := by rw [k4 _ _ (by first | omega | (simp; done) | (simp; omega))]; first | (simp; done) | go_simp
  have n4_10 : W3.heap.size < W4.heap.size := by omega
  have q4_a0_2 : Rd W4 w.heap.size a0_2 la0_2 xa0_2 := q3_a0_2.below (d4.mono (by omega))
  have q4_A3_0 : Wr W4 (W2.heap.size + 0) A3_0 (r0_CurveOfLand a0_0 a0_1 xa0_2 a1 a2 a3).length (r0_CurveOfLand a0_0 a0_1 xa0_2 a1 a2 a3) := q3_A3_0.below d4
  have q4_A3_1 : Wr W4 (W2.heap.size + 0) A3_1 (r1_CurveOfLand a0_0 a0_1 xa0_2 a1 a2 a3).length (r1_CurveOfLand a0_0 a0_1 xa0_2 a1 a2 a3) := q3_A3_1.below d4
  clear k4 y3_4_0 y3_4_1 y3_4_2 n3_4
  have q4_A4_0 : Wr W4 (W3.heap.size + 1) A4_0 la0_2 xa0_2 := p4_0.lower (by first | omega | (simp; done) | (simp; omega))
  have t4_0 := q4_A4_0.lt
  go_wp2_with fail
  refine (implC_CurveOfLand _ _ _ _ _ xa0_2 _ _ _ _ ha0_0 ha0_1 ha0_2 (Rd.mono ((q4_A4_0.rd).below (by repeat (first | assumption | exact Below.refl _ _ | (refine Below.setCell ?_ (by first | omega | (simp; done) | (simp; omega)) _) | apply below_drewN | apply Below.drew | (refine Below.alloc ?_ (by first | omega | (simp; done) | (simp; omega)) _)))) (by first | omega | (simp; done) | (simp; omega))) fa0_2 ha1 ha2 ha3).mono ?_
  rintro e5 W5 ⟨A5_0, A5_1, c5_0, c5_1, rfl, b5, p5_0, p5_1, dis5_0_1⟩
  obtain ⟨k5, _⟩ := bcell b5
  have s5 : W4.heap.size + 1 ≤ W5.heap.size := by have := b5.size; (try simp at this); omega
  have d5 : Below W4.heap.size W4 W5 := (by repeat (first | assumption | exact Below.refl _ _ | (refine Below.trans ?_ (b5.mono (by first | omega | (simp; done) | (simp; omega)))) | (refine Below.setCell ?_ (by first | omega | (simp; done) | (simp; omega)) _) | apply below_drewN | apply Below.drew | (refine Below.alloc ?_ (by first | omega | (simp; done) | (simp; omega)) _)))
  have D5 : Below w.heap.size w W5 := Below.trans D4 (d5.mono (by omega))
  have y5_4_0 : W5.cell? ⟨w.heap.size, 0, none⟩ = some (.int .i64 a0_0) := (d5.cell (p := ⟨w.heap.size, 0, none⟩) (show w.heap.size < W4.heap.size by omega)).trans y4_4_0
  have y5_4_1 : W5.cell? ⟨w.heap.size, 1, none⟩ = some (.int .i64 a0_1) := (d5.cell (p := ⟨w.heap.size, 1, none⟩) (show w.heap.size < W4.heap.size by omega)).trans y4_4_1
  have y5_4_2 : W5.cell? ⟨w.heap.size, 2, none⟩ = some (.slice a0_2 la0_2 ca0_2) := (d5.cell (p := ⟨w.heap.size, 2, none⟩) (show w.heap.size < W4.heap.size by omega)).trans y4_4_2
  have n5_4 : w.heap.size < W5.heap.size := by omega
  have y5_10_0 : W5.cell? ⟨W3.heap.size, 0, none⟩ = some (.slice A3_0 (r0_CurveOfLand a0_0 a0_1 xa0_2 a1 a2 a3).length c3_0) := (d5.cell (p := ⟨W3.heap.size, 0, none⟩) (show W3.heap.size < W4.heap.size by omega)).trans y4_10_0
  have y5_10_1 : W5.cell? ⟨W3.heap.size, 1, none⟩ = some (.slice A3_1 (r1_CurveOfLand a0_0 a0_1 xa0_2 a1 a2 a3).length c3_1) := (d5.cell (p := ⟨W3.heap.size, 1, none⟩) (show W3.heap.size < W4.heap.size by omega)).trans y4_10_1
  have n5_10 : W3.heap.size < W5.heap.size := by omega
  have y5_12_0 : W5.cell? ⟨W4.heap.size, 0, none⟩ = some (.int .i64 a0_0) := by rw [k5 _ _ (by first | omega | (simp; done) | (simp; omega))]; first | (simp; done) | go_simp
  have y5_12_1 : W5.cell? ⟨W4.heap.size, 1, none⟩ = some (.int .i64 a0_1) := by rw [k5 _ _ (by first | omega | (simp; done) | (simp; omega))]; first | (simp; done) | go_simp
  have y5_12_2 : W5.cell? ⟨W4.heap.size, 2, none⟩ = some (.slice A4_0 la0_2 c4_0) := by rw [k5 _ _ (by first | omega | (simp; done) | (simp; omega))]; first | (simp; done) | go_simp
  have n5_12 : W4.heap.size < W5.heap.size := by omega
  have q5_a0_2 : Rd W5 w.heap.size a0_2 la0_2 xa0_2 := q4_a0_2.below (d5.mono (by omega))
  have q5_A3_0 : Wr W5 (W2.heap.size + 0) A3_0 (r0_CurveOfLand a0_0 a0_1 xa0_2 a1 a2 a3).length (r0_CurveOfLand a0_0 a0_1 xa0_2 a1 a2 a3) := q4_A3_0.below d5
  have q5_A3_1 : Wr W5 (W2.heap.size + 0) A3_1 (r1_CurveOfLand a0_0 a0_1 xa0_2 a1 a2 a3).length (r1_CurveOfLand a0_0 a0_1 xa0_2 a1 a2 a3) := q4_A3_1.below d5
  have q5_A4_0 : Wr W5 (W3.heap.size + 1) A4_0 la0_2 xa0_2 := q4_A4_0.below d5
  clear k5 y4_4_0 y4_4_1 y4_4_2 n4_4 y4_10_0 y4_10_1 n4_10
  have q5_A5_0 : Wr W5 (W4.heap.size + 1) A5_0 (r0_CurveOfLand a0_0 a0_1 xa0_2 a1 a2 a3).length (r0_CurveOfLand a0_0 a0_1 xa0_2 a1 a2 a3) := p5_0.lower (by first | omega | (simp; done) | (simp; omega))
  have t5_0 := q5_A5_0.lt
  have q5_A5_1 : Wr W5 (W4.heap.size + 1) A5_1 (r1_CurveOfLand a0_0 a0_1 xa0_2 a1 a2 a3).length (r1_CurveOfLand a0_0 a0_1 xa0_2 a1 a2 a3) := p5_1.lower (by first | omega | (simp; done) | (simp; omega))
  have t5_1 := q5_A5_1.lt
  go_wp2_with fail
  refine (eqCurve_x _ _ _ _ _ (r0_CurveOfLand a0_0 a0_1 xa0_2 a1 a2 a3) _ _ _ _ _ (r1_CurveOfLand a0_0 a0_1 xa0_2 a1 a2 a3) _ hl_r0_CurveOfLand (Rd.mono ((q5_A5_0.rd).below (by repeat (first | assumption | exact Below.refl _ _ | (refine Below.setCell ?_ (by first | omega | (simp; done) | (simp; omega)) _) | apply below_drewN | apply Below.drew | (refine Below.alloc ?_ (by first | omega | (simp; done) | (simp; omega)) _)))) (by first | omega | (simp; done) | (simp; omega))) (Rd.mono ((q5_A3_0.rd).below (by repeat (first | assumption | exact Below.refl _ _ | (refine Below.setCell ?_ (by first | omega | (simp; done) | (simp; omega)) _) | apply below_drewN | apply Below.drew | (refine Below.alloc ?_ (by first | omega | (simp; done) | (simp; omega)) _)))) (by first | omega | (simp; done) | (simp; omega))) hl_r1_CurveOfLand (Rd.mono ((q5_A5_1.rd).below (by repeat (first | assumption | exact Below.refl _ _ | (refine Below.setCell ?_ (by first | omega | (simp; done) | (simp; omega)) _) | apply below_drewN | apply Below.drew | (refine Below.alloc ?_ (by first | omega | (simp; done) | (simp; omega)) _)))) (by first | omega | (simp; done) | (simp; omega))) (Rd.mono ((q5_A3_1.rd).below (by repeat (first | assumption | exact Below.refl _ _ | (refine Below.setCell ?_ (by first | omega | (simp; done) | (simp; omega)) _) | apply below_drewN | apply Below.drew | (refine Below.alloc ?_ (by first | omega | (simp; done) | (simp; omega)) _)))) (by first | omega | (simp; done) | (simp; omega)))).mono ?_
  rintro e6 W6 ⟨rfl, b6⟩
  obtain ⟨k6, _⟩ := bcell b6
  have s6 : W5.heap.size + 1 ≤ W6.heap.size := by have := b6.size; (try simp at this); omega
  have d6 : Below W5.heap.size W5 W6 := (by repeat (first | assumption | exact Below.refl _ _ | (refine Below.trans ?_ (b6.mono (by first | omega | (simp; done) | (simp; omega)))) | (refine Below.setCell ?_ (by first | omega | (simp; done) | (simp; omega)) _) | apply below_drewN | apply Below.drew | (refine Below.alloc ?_ (by first | omega | (simp; done) | (simp; omega)) _)))
  have D6 : Below w.heap.size w W6 := Below.trans D5 (d6.mono (by omega))
  have y6_4_0 : W6.cell? ⟨w.heap.size, 0, none⟩ = some (.int .i64 a0_0) := (d6.cell (p := ⟨w.heap.size, 0, none⟩) (show w.heap.size < W5.heap.size by omega)).trans y5_4_0
  have y6_4_1 : W6.cell? ⟨w.heap.size, 1, none⟩ = some (.int .i64 a0_1) := (d6.cell (p := ⟨w.heap.size, 1, none⟩) (show w.heap.size < W5.heap.size by omega)).trans y5_4_1
  have y6_4_2 : W6.cell? ⟨w.heap.size, 2, none⟩ = some (.slice a0_2 la0_2 ca0_2) := (d6.cell (p := ⟨w.heap.size, 2, none⟩) (show w.heap.size < W5.heap.size by omega)).trans y5_4_2
  have n6_4 : w.heap.size < W6.heap.size := by omega
  have y6_10_0 : W6.cell? ⟨W3.heap.size, 0, none⟩ = some (.slice A3_0 (r0_CurveOfLand a0_0 a0_1 xa0_2 a1 a2 a3).length c3_0) := (d6.cell (p := ⟨W3.heap.size, 0, none⟩) (show W3.heap.size < W5.heap.size by omega)).trans y5_10_0
  have y6_10_1 : W6.cell? ⟨W3.heap.size, 1, none⟩ = some (.slice A3_1 (r1_CurveOfLand a0_0 a0_1 xa0_2 a1 a2 a3).length c3_1) := (d6.cell (p := ⟨W3.heap.size, 1, none⟩) (show W3.heap.size < W5.heap.size by omega)).trans y5_10_1
  have n6_10 : W3.heap.size < W6.heap.size := by omega
  have y6_12_0 : W6.cell? ⟨W4.heap.size, 0, none⟩ = some (.int .i64 a0_0) := (d6.cell (p := ⟨W4.heap.size, 0, none⟩) (show W4.heap.size < W5.heap.size by omega)).trans y5_12_0
  have y6_12_1 : W6.cell? ⟨W4.heap.size, 1, none⟩ = some (.int .i64 a0_1) := (d6.cell (p := ⟨W4.heap.size, 1, none⟩) (show W4.heap.size < W5.heap.size by omega)).trans y5_12_1
  have y6_12_2 : W6.cell? ⟨W4.heap.size, 2, none⟩ = some (.slice A4_0 la0_2 c4_0) := (d6.cell (p := ⟨W4.heap.size, 2, none⟩) (show W4.heap.size < W5.heap.size by omega)).trans y5_12_2
  have n6_12 : W4.heap.size < W6.heap.size := by omega
  have y6_13_0 : W6.cell? ⟨W5.heap.size, 0, none⟩ = some (.slice A5_0 (r0_CurveOfLand a0_0 a0_1 xa0_2 a1 a2 a3).length c5_0) := by rw [k6 _ _ (by first | omega | (simp; done) | (simp; omega))]; first | (simp; done) | go_simp
  have y6_13_1 : W6.cell? ⟨W5.heap.size, 1, none⟩ = some (.slice A5_1 (r1_CurveOfLand a0_0 a0_1 xa0_2 a1 a2 a3).length c5_1) := by rw [k6 _ _ (by first | omega | (simp; done) | (simp; omega))]; first | (simp; done) | go_simp
  have n6_13 : W5.heap.size < W6.heap.size := by omega
  have q6_a0_2 : Rd W6 w.heap.size a0_2 la0_2 xa0_2 := q5_a0_2.below (d6.mono (by omega))
  have q6_A3_0 : Wr W6 (W2.heap.size + 0) A3_0 (r0_CurveOfLand a0_0 a0_1 xa0_2 a1 a2 a3).length (r0_CurveOfLand a0_0 a0_1 xa0_2 a1 a2 a3) := q5_A3_0.below d6
  have q6_A3_1 : Wr W6 (W2.heap.size + 0) A3_1 (r1_CurveOfLand a0_0 a0_1 xa0_2 a1 a2 a3).length (r1_CurveOfLand a0_0 a0_1 xa0_2 a1 a2 a3) := q5_A3_1.below d6
  have q6_A4_0 : Wr W6 (W3.heap.size + 1) A4_0 la0_2 xa0_2 := q5_A4_0.below d6
  have q6_A5_0 : Wr W6 (W4.heap.size + 1) A5_0 (r0_CurveOfLand a0_0 a0_1 xa0_2 a1 a2 a3).length (r0_CurveOfLand a0_0 a0_1 xa0_2 a1 a2 a3) := q5_A5_0.below d6
  have q6_A5_1 : Wr W6 (W4.heap.size + 1) A5_1 (r1_CurveOfLand a0_0 a0_1 xa0_2 a1 a2 a3).length (r1_CurveOfLand a0_0 a0_1 xa0_2 a1 a2 a3) := q5_A5_1.below d6
  clear k6 y5_4_0 y5_4_1 y5_4_2 n5_4 y5_10_0 y5_10_1 n5_10 y5_12_0 y5_12_1 y5_12_2 n5_12
  go_wp2_with fail
  go_region_held3 (fun w' => w'.cell? ⟨W4.heap.size, 0, none⟩ = some (.int .i64 a0_0) ∧ w'.cell? ⟨W4.heap.size, 1, none⟩ = some (.int .i64 a0_1) ∧ w'.cell? ⟨W4.heap.size, 2, none⟩ = some (.slice A4_0 la0_2 c4_0) ∧ w'.cell? ⟨w.heap.size, 0, none⟩ = some (.int .i64 a0_0) ∧ w'.cell? ⟨w.heap.size, 1, none⟩ = some (.int .i64 a0_1) ∧ w'.cell? ⟨w.heap.size, 2, none⟩ = some (.slice a0_2 la0_2 ca0_2)) (go_keep) (first | (go_at_call 31; refine (toLand_x _ _ _ _ _ xa0_2 _ ha0_2 (Rd.mono (q6_a0_2.below (by repeat (first | assumption | exact Below.refl _ _ | (refine Below.setCell ?_ (by first | omega | (simp; done) | (simp; omega)) _) | apply below_drewN | apply Below.drew | (refine Below.alloc ?_ (by first | omega | (simp; done) | (simp; omega)) _)))) (by first | omega | (simp; done) | (simp; omega)))).mono ?_; rintro e7 W7 ⟨A7_0, c7_0, rfl, b7, p7_0⟩; obtain ⟨k7, _⟩ := bcell b7; (have s7 : W6.heap.size + 0 ≤ W7.heap.size := by have := b7.size; (try simp at this); omega); (have d7 : Below W6.heap.size W6 W7 := (by repeat (first | assumption | exact Below.refl _ _ | (refine Below.trans ?_ (b7.mono (by first | omega | (simp; done) | (simp; omega)))) | (refine Below.setCell ?_ (by first | omega | (simp; done) | (simp; omega)) _) | apply below_drewN | apply Below.drew | (refine Below.alloc ?_ (by first | omega | (simp; done) | (simp; omega)) _)))); (have D7 : Below w.heap.size w W7 := Below.trans D6 (d7.mono (by omega))); (have y7_4_0 : W7.cell? ⟨w.heap.size, 0, none⟩ = some (.int .i64 a0_0) := (d7.cell (p := ⟨w.heap.size, 0, none⟩) (show w.heap.size < W6.heap.size by omega)).trans y6_4_0); (have y7_4_1 : W7.cell? ⟨w.heap.size, 1, none⟩ = some (.int .i64 a0_1) := (d7.cell (p := ⟨w.heap.size, 1, none⟩) (show w.heap.size < W6.heap.size by omega)).trans y6_4_1); (have y7_4_2 : W7.cell? ⟨w.heap.size, 2, none⟩ = some (.slice a0_2 la0_2 ca0_2) := (d7.cell (p := ⟨w.heap.size, 2, none⟩) (show w.heap.size < W6.heap.size by omega)).trans y6_4_2); (have n7_4 : w.heap.size < W7.heap.size := by omega); (have y7_10_0 : W7.cell? ⟨W3.heap.size, 0, none⟩ = some (.slice A3_0 (r0_CurveOfLand a0_0 a0_1 xa0_2 a1 a2 a3).length c3_0) := (d7.cell (p := ⟨W3.heap.size, 0, none⟩) (show W3.heap.size < W6.heap.size by omega)).trans y6_10_0); (have y7_10_1 : W7.cell? ⟨W3.heap.size, 1, none⟩ = some (.slice A3_1 (r1_CurveOfLand a0_0 a0_1 xa0_2 a1 a2 a3).length c3_1) := (d7.cell (p := ⟨W3.heap.size, 1, none⟩) (show W3.heap.size < W6.heap.size by omega)).trans y6_10_1); (have n7_10 : W3.heap.size < W7.heap.size := by omega); (have y7_12_0 : W7.cell? ⟨W4.heap.size, 0, none⟩ = some (.int .i64 a0_0) := (d7.cell (p := ⟨W4.heap.size, 0, none⟩) (show W4.heap.size < W6.heap.size by omega)).trans y6_12_0); (have y7_12_1 : W7.cell? ⟨W4.heap.size, 1, none⟩ = some (.int .i64 a0_1) := (d7.cell (p := ⟨W4.heap.size, 1, none⟩) (show W4.heap.size < W6.heap.size by omega)).trans y6_12_1); (have y7_12_2 : W7.cell? ⟨W4.heap.size, 2, none⟩ = some (.slice A4_0 la0_2 c4_0) := (d7.cell (p := ⟨W4.heap.size, 2, none⟩) (show W4.heap.size < W6.heap.size by omega)).trans y6_12_2); (have n7_12 : W4.heap.size < W7.heap.size := by omega); (have y7_13_0 : W7.cell? ⟨W5.heap.size, 0, none⟩ = some (.slice A5_0 (r0_CurveOfLand a0_0 a0_1 xa0_2 a1 a2 a3).length c5_0) := (d7.cell (p := ⟨W5.heap.size, 0, none⟩) (show W5.heap.size < W6.heap.size by omega)).trans y6_13_0); (have y7_13_1 : W7.cell? ⟨W5.heap.size, 1, none⟩ = some (.slice A5_1 (r1_CurveOfLand a0_0 a0_1 xa0_2 a1 a2 a3).length c5_1) := (d7.cell (p := ⟨W5.heap.size, 1, none⟩) (show W5.heap.size < W6.heap.size by omega)).trans y6_13_1); (have n7_13 : W5.heap.size < W7.heap.size := by omega); (have q7_a0_2 : Rd W7 w.heap.size a0_2 la0_2 xa0_2 := q6_a0_2.below (d7.mono (by omega))); (have q7_A3_0 : Wr W7 (W2.heap.size + 0) A3_0 (r0_CurveOfLand a0_0 a0_1 xa0_2 a1 a2 a3).length (r0_CurveOfLand a0_0 a0_1 xa0_2 a1 a2 a3) := q6_A3_0.below d7); (have q7_A3_1 : Wr W7 (W2.heap.size + 0) A3_1 (r1_CurveOfLand a0_0 a0_1 xa0_2 a1 a2 a3).length (r1_CurveOfLand a0_0 a0_1 xa0_2 a1 a2 a3) := q6_A3_1.below d7); (have q7_A4_0 : Wr W7 (W3.heap.size + 1) A4_0 la0_2 xa0_2 := q6_A4_0.below d7); (have q7_A5_0 : Wr W7 (W4.heap.size + 1) A5_0 (r0_CurveOfLand a0_0 a0_1 xa0_2 a1 a2 a3).length (r0_CurveOfLand a0_0 a0_1 xa0_2 a1 a2 a3) := q6_A5_0.below d7); (have q7_A5_1 : Wr W7 (W4.heap.size + 1) A5_1 (r1_CurveOfLand a0_0 a0_1 xa0_2 a1 a2 a3).length (r1_CurveOfLand a0_0 a0_1 xa0_2 a1 a2 a3) := q6_A5_1.below d7); clear k7 y6_4_0 y6_4_1 y6_4_2 n6_4 y6_10_0 y6_10_1 n6_10 y6_12_0 y6_12_1 y6_12_2 n6_12 y6_13_0 y6_13_1 n6_13; (have q7_A7_0 : Wr W7 (W6.heap.size + 0) A7_0 la0_2 xa0_2 := p7_0.lower (by first | omega | (simp; done) | (simp; omega))); (have t7_0 := q7_A7_0.lt)) | (go_at_call 34; refine (eqLand_x _ _ _ _ _ _ _ xa0_2 _ ha0_2 (Rd.mono ((q7_A4_0.rd).below (by repeat (first | assumption | exact Below.refl _ _ | (refine Below.setCell ?_ (by first | omega | (simp; done) | (simp; omega)) _) | apply below_drewN | apply Below.drew | (refine Below.alloc ?_ (by first | omega | (simp; done) | (simp; omega)) _)))) (by first | omega | (simp; done) | (simp; omega))) (Rd.mono ((q7_A7_0.rd).below (by repeat (first | assumption | exact Below.refl _ _ | (refine Below.setCell ?_ (by first | omega | (simp; done) | (simp; omega)) _) | apply below_drewN | apply Below.drew | (refine Below.alloc ?_ (by first | omega | (simp; done) | (simp; omega)) _)))) (by first | omega | (simp; done) | (simp; omega)))).mono ?_; rintro e8 W8 ⟨rfl, b8⟩; obtain ⟨k8, _⟩ := bcell b8; (have s8 : W7.heap.size + 0 ≤ W8.heap.size := by have := b8.size; (try simp at this); omega); (have d8 : Below W7.heap.size W7 W8 := (by repeat (first | assumption | exact Below.refl _ _ | (refine Below.trans ?_ (b8.mono (by first | omega | (simp; done) | (simp; omega)))) | (refine Below.setCell ?_ (by first | omega | (simp; done) | (simp; omega)) _) | apply below_drewN | apply Below.drew | (refine Below.alloc ?_ (by first | omega | (simp; done) | (simp; omega)) _)))); (have D8 : Below w.heap.size w W8 := Below.trans D7 (d8.mono (by omega))); (have y8_4_0 : W8.cell? ⟨w.heap.size, 0, none⟩ = some (.int .i64 a0_0) := (d8.cell (p := ⟨w.heap.size, 0, none⟩) (show w.heap.size < W7.heap.size by omega)).trans y7_4_0); (have y8_4_1 : W8.cell? ⟨w.heap.size, 1, none⟩ = some (.int .i64 a0_1) := (d8.cell (p := ⟨w.heap.size, 1, none⟩) (show w.heap.size < W7.heap.size by omega)).trans y7_4_1); (have y8_4_2 : W8.cell? ⟨w.heap.size, 2, none⟩ = some (.slice a0_2 la0_2 ca0_2) := (d8.cell (p := ⟨w.heap.size, 2, none⟩) (show w.heap.size < W7.heap.size by omega)).trans y7_4_2); (have n8_4 : w.heap.size < W8.heap.size := by omega); (have y8_10_0 : W8.cell? ⟨W3.heap.size, 0, none⟩ = some (.slice A3_0 (r0_CurveOfLand a0_0 a0_1 xa0_2 a1 a2 a3).length c3_0) := (d8.cell (p := ⟨W3.heap.size, 0, none⟩) (show W3.heap.size < W7.heap.size by omega)).trans y7_10_0); (have y8_10_1 : W8.cell? ⟨W3.heap.size, 1, none⟩ = some (.slice A3_1 (r1_CurveOfLand a0_0 a0_1 xa0_2 a1 a2 a3).length c3_1) := (d8.cell (p := ⟨W3.heap.size, 1, none⟩) (show W3.heap.size < W7.heap.size by omega)).trans y7_10_1); (have n8_10 : W3.heap.size < W8.heap.size := by omega); (have y8_12_0 : W8.cell? ⟨W4.heap.size, 0, none⟩ = some (.int .i64 a0_0) := (d8.cell (p := ⟨W4.heap.size, 0, none⟩) (show W4.heap.size < W7.heap.size by omega)).trans y7_12_0); (have y8_12_1 : W8.cell? ⟨W4.heap.size, 1, none⟩ = some (.int .i64 a0_1) := (d8.cell (p := ⟨W4.heap.size, 1, none⟩) (show W4.heap.size < W7.heap.size by omega)).trans y7_12_1); (have y8_12_2 : W8.cell? ⟨W4.heap.size, 2, none⟩ = some (.slice A4_0 la0_2 c4_0) := (d8.cell (p := ⟨W4.heap.size, 2, none⟩) (show W4.heap.size < W7.heap.size by omega)).trans y7_12_2); (have n8_12 : W4.heap.size < W8.heap.size := by omega); (have y8_13_0 : W8.cell? ⟨W5.heap.size, 0, none⟩ = some (.slice A5_0 (r0_CurveOfLand a0_0 a0_1 xa0_2 a1 a2 a3).length c5_0) := (d8.cell (p := ⟨W5.heap.size, 0, none⟩) (show W5.heap.size < W7.heap.size by omega)).trans y7_13_0); (have y8_13_1 : W8.cell? ⟨W5.heap.size, 1, none⟩ = some (.slice A5_1 (r1_CurveOfLand a0_0 a0_1 xa0_2 a1 a2 a3).length c5_1) := (d8.cell (p := ⟨W5.heap.size, 1, none⟩) (show W5.heap.size < W7.heap.size by omega)).trans y7_13_1); (have n8_13 : W5.heap.size < W8.heap.size := by omega); (have q8_a0_2 : Rd W8 w.heap.size a0_2 la0_2 xa0_2 := q7_a0_2.below (d8.mono (by omega))); (have q8_A3_0 : Wr W8 (W2.heap.size + 0) A3_0 (r0_CurveOfLand a0_0 a0_1 xa0_2 a1 a2 a3).length (r0_CurveOfLand a0_0 a0_1 xa0_2 a1 a2 a3) := q7_A3_0.below d8); (have q8_A3_1 : Wr W8 (W2.heap.size + 0) A3_1 (r1_CurveOfLand a0_0 a0_1 xa0_2 a1 a2 a3).length (r1_CurveOfLand a0_0 a0_1 xa0_2 a1 a2 a3) := q7_A3_1.below d8); (have q8_A4_0 : Wr W8 (W3.heap.size + 1) A4_0 la0_2 xa0_2 := q7_A4_0.below d8); (have q8_A5_0 : Wr W8 (W4.heap.size + 1) A5_0 (r0_CurveOfLand a0_0 a0_1 xa0_2 a1 a2 a3).length (r0_CurveOfLand a0_0 a0_1 xa0_2 a1 a2 a3) := q7_A5_0.below d8); (have q8_A5_1 : Wr W8 (W4.heap.size + 1) A5_1 (r1_CurveOfLand a0_0 a0_1 xa0_2 a1 a2 a3).length (r1_CurveOfLand a0_0 a0_1 xa0_2 a1 a2 a3) := q7_A5_1.below d8); clear k8 y7_4_0 y7_4_1 y7_4_2 n7_4 y7_10_0 y7_10_1 n7_10 y7_12_0 y7_12_1 y7_12_2 n7_12 y7_13_0 y7_13_1 n7_13))
  go_wp2_with fail
  refine (markLand_x (W3.heap.size + 1) W4.heap.size _ _ _ _ _ xa0_2 _ _  (by omega) (by omega) (by first | omega | (simp; done) | (simp; omega)) ha0_2 (q8_A4_0.below (by repeat (first | assumption | exact Below.refl _ _ | (refine Below.setCell ?_ (by first | omega | (simp; done) | (simp; omega)) _) | apply below_drewN | apply Below.drew | (refine Below.alloc ?_ (by first | omega | (simp; done) | (simp; omega)) _)))) t4_0).mono ?_
  rintro e9 W9 ⟨rfl, b9, z9_0⟩
  have s9 : W8.heap.size + 0 ≤ W9.heap.size := by have := b9.size; (try simp at this); omega
  have d9 : Chg (W3.heap.size + 1) W4.heap.size W8 W9 := Chg.trans' (by repeat (first | assumption | exact Below.refl _ _ | (refine Below.setCell ?_ (by first | omega | (simp; done) | (simp; omega)) _) | apply below_drewN | apply Below.drew | (refine Below.alloc ?_ (by first | omega | (simp; done) | (simp; omega)) _))) b9
  have D9 : Below w.heap.size w W9 := Below.trans D8 (d9.below (by omega) (by omega))
  have y9_4_0 : W9.cell? ⟨w.heap.size, 0, none⟩ = some (.int .i64 a0_0) := (d9.cell (by omega) (by omega)).trans y8_4_0
  have y9_4_1 : W9.cell? ⟨w.heap.size, 1, none⟩ = some (.int .i64 a0_1) := (d9.cell (by omega) (by omega)).trans y8_4_1
  have y9_4_2 : W9.cell? ⟨w.heap.size, 2, none⟩ = some (.slice a0_2 la0_2 ca0_2) := (d9.cell (by omega) (by omega)).trans y8_4_2
  have n9_4 : w.heap.size < W9.heap.size := by omega
  have y9_10_0 : W9.cell? ⟨W3.heap.size, 0, none⟩ = some (.slice A3_0 (r0_CurveOfLand a0_0 a0_1 xa0_2 a1 a2 a3).length c3_0) := (d9.cell (by omega) (by omega)).trans y8_10_0
  have y9_10_1 : W9.cell? ⟨W3.heap.size, 1, none⟩ = some (.slice A3_1 (r1_CurveOfLand a0_0 a0_1 xa0_2 a1 a2 a3).length c3_1) := (d9.cell (by omega) (by omega)).trans y8_10_1
  have n9_10 : W3.heap.size < W9.heap.size := by omega
  have y9_13_0 : W9.cell? ⟨W5.heap.size, 0, none⟩ = some (.slice A5_0 (r0_CurveOfLand a0_0 a0_1 xa0_2 a1 a2 a3).length c5_0) := (d9.cell (by omega) (by omega)).trans y8_13_0
  have y9_13_1 : W9.cell? ⟨W5.heap.size, 1, none⟩ = some (.slice A5_1 (r1_CurveOfLand a0_0 a0_1 xa0_2 a1 a2 a3).length c5_1) := (d9.cell (by omega) (by omega)).trans y8_13_1
  have n9_13 : W5.heap.size < W9.heap.size := by omega
  have q9_a0_2 : Rd W9 w.heap.size a0_2 la0_2 xa0_2 := q8_a0_2.below (d9.below (by omega) (by omega))
  have q9_A3_0 : Wr W9 (W2.heap.size + 0) A3_0 (r0_CurveOfLand a0_0 a0_1 xa0_2 a1 a2 a3).length (r0_CurveOfLand a0_0 a0_1 xa0_2 a1 a2 a3) := q8_A3_0.chg t3_0 d9 (by omega)
  have q9_A3_1 : Wr W9 (W2.heap.size + 0) A3_1 (r1_CurveOfLand a0_0 a0_1 xa0_2 a1 a2 a3).length (r1_CurveOfLand a0_0 a0_1 xa0_2 a1 a2 a3) := q8_A3_1.chg t3_1 d9 (by omega)
  have q9_A5_0 : Wr W9 (W4.heap.size + 1) A5_0 (r0_CurveOfLand a0_0 a0_1 xa0_2 a1 a2 a3).length (r0_CurveOfLand a0_0 a0_1 xa0_2 a1 a2 a3) := q8_A5_0.chg t5_0 d9 (by omega)
  have q9_A5_1 : Wr W9 (W4.heap.size + 1) A5_1 (r1_CurveOfLand a0_0 a0_1 xa0_2 a1 a2 a3).length (r1_CurveOfLand a0_0 a0_1 xa0_2 a1 a2 a3) := q8_A5_1.chg t5_1 d9 (by omega)
  clear y8_4_0 y8_4_1 y8_4_2 n8_4 y8_10_0 y8_10_1 n8_10 y8_12_0 y8_12_1 y8_12_2 y8_13_0 y8_13_1 n8_13
  go_wp2_with fail
  refine (eqCurve_x _ _ _ _ _ (r0_CurveOfLand a0_0 a0_1 xa0_2 a1 a2 a3) _ _ _ _ _ (r1_CurveOfLand a0_0 a0_1 xa0_2 a1 a2 a3) _ hl_r0_CurveOfLand (Rd.mono ((q9_A5_0.rd).below (by repeat (first | assumption | exact Below.refl _ _ | (refine Below.setCell ?_ (by first | omega | (simp; done) | (simp; omega)) _) | apply below_drewN | apply Below.drew | (refine Below.alloc ?_ (by first | omega | (simp; done) | (simp; omega)) _)))) (by first | omega | (simp; done) | (simp; omega))) (Rd.mono ((q9_A3_0.rd).below (by repeat (first | assumption | exact Below.refl _ _ | (refine Below.setCell ?_ (by first | omega | (simp; done) | (simp; omega)) _) | apply below_drewN | apply Below.drew | (refine Below.alloc ?_ (by first | omega | (simp; done) | (simp; omega)) _)))) (by first | omega | (simp; done) | (simp; omega))) hl_r1_CurveOfLand (Rd.mono ((q9_A5_1.rd).below (by repeat (first | assumption | exact Below.refl _ _ | (refine Below.setCell ?_ (by first | omega | (simp; done) | (simp; omega)) _) | apply below_drewN | apply Below.drew | (refine Below.alloc ?_ (by first | omega | (simp; done) | (simp; omega)) _)))) (by first | omega | (simp; done) | (simp; omega))) (Rd.mono ((q9_A3_1.rd).below (by repeat (first | assumption | exact Below.refl _ _ | (refine Below.setCell ?_ (by first | omega | (simp; done) | (simp; omega)) _) | apply below_drewN | apply Below.drew | (refine Below.alloc ?_ (by first | omega | (simp; done) | (simp; omega)) _)))) (by first | omega | (simp; done) | (simp; omega)))).mono ?_
  rintro e10 W10 ⟨rfl, b10⟩
  obtain ⟨k10, _⟩ := bcell b10
  have s10 : W9.heap.size + 0 ≤ W10.heap.size := by have := b10.size; (try simp at this); omega
  have d10 : Below W9.heap.size W9 W10 := (by repeat (first | assumption | exact Below.refl _ _ | (refine Below.trans ?_ (b10.mono (by first | omega | (simp; done) | (simp; omega)))) | (refine Below.setCell ?_ (by first | omega | (simp; done) | (simp; omega)) _) | apply below_drewN | apply Below.drew | (refine Below.alloc ?_ (by first | omega | (simp; done) | (simp; omega)) _)))
  have D10 : Below w.heap.size w W10 := Below.trans D9 (d10.mono (by omega))
  have y10_4_0 : W10.cell? ⟨w.heap.size, 0, none⟩ = some (.int .i64 a0_0) := (d10.cell (p := ⟨w.heap.size, 0, none⟩) (show w.heap.size < W9.heap.size by omega)).trans y9_4_0
  have y10_4_1 : W10.cell? ⟨w.heap.size, 1, none⟩ = some (.int .i64 a0_1) := (d10.cell (p := ⟨w.heap.size, 1, none⟩) (show w.heap.size < W9.heap.size by omega)).trans y9_4_1
  have y10_4_2 : W10.cell? ⟨w.heap.size, 2, none⟩ = some (.slice a0_2 la0_2 ca0_2) := (d10.cell (p := ⟨w.heap.size, 2, none⟩) (show w.heap.size < W9.heap.size by omega)).trans y9_4_2
  have n10_4 : w.heap.size < W10.heap.size := by omega
  have y10_10_0 : W10.cell? ⟨W3.heap.size, 0, none⟩ = some (.slice A3_0 (r0_CurveOfLand a0_0 a0_1 xa0_2 a1 a2 a3).length c3_0) := (d10.cell (p := ⟨W3.heap.size, 0, none⟩) (show W3.heap.size < W9.heap.size by omega)).trans y9_10_0
  have y10_10_1 : W10.cell? ⟨W3.heap.size, 1, none⟩ = some (.slice A3_1 (r1_CurveOfLand a0_0 a0_1 xa0_2 a1 a2 a3).length c3_1) := (d10.cell (p := ⟨W3.heap.size, 1, none⟩) (show W3.heap.size < W9.heap.size by omega)).trans y9_10_1
  have n10_10 : W3.heap.size < W10.heap.size := by omega
  have y10_13_0 : W10.cell? ⟨W5.heap.size, 0, none⟩ = some (.slice A5_0 (r0_CurveOfLand a0_0 a0_1 xa0_2 a1 a2 a3).length c5_0) := (d10.cell (p := ⟨W5.heap.size, 0, none⟩) (show W5.heap.size < W9.heap.size by omega)).trans y9_13_0
  have y10_13_1 : W10.cell? ⟨W5.heap.size, 1, none⟩ = some (.slice A5_1 (r1_CurveOfLand a0_0 a0_1 xa0_2 a1 a2 a3).length c5_1) := (d10.cell (p := ⟨W5.heap.size, 1, none⟩) (show W5.heap.size < W9.heap.size by omega)).trans y9_13_1
  have n10_13 : W5.heap.size < W10.heap.size := by omega
  have q10_a0_2 : Rd W10 w.heap.size a0_2 la0_2 xa0_2 := q9_a0_2.below (d10.mono (by omega))
  have q10_A3_0 : Wr W10 (W2.heap.size + 0) A3_0 (r0_CurveOfLand a0_0 a0_1 xa0_2 a1 a2 a3).length (r0_CurveOfLand a0_0 a0_1 xa0_2 a1 a2 a3) := q9_A3_0.below d10
  have q10_A3_1 : Wr W10 (W2.heap.size + 0) A3_1 (r1_CurveOfLand a0_0 a0_1 xa0_2 a1 a2 a3).length (r1_CurveOfLand a0_0 a0_1 xa0_2 a1 a2 a3) := q9_A3_1.below d10
  have q10_A5_0 : Wr W10 (W4.heap.size + 1) A5_0 (r0_CurveOfLand a0_0 a0_1 xa0_2 a1 a2 a3).length (r0_CurveOfLand a0_0 a0_1 xa0_2 a1 a2 a3) := q9_A5_0.below d10
  have q10_A5_1 : Wr W10 (W4.heap.size + 1) A5_1 (r1_CurveOfLand a0_0 a0_1 xa0_2 a1 a2 a3).length (r1_CurveOfLand a0_0 a0_1 xa0_2 a1 a2 a3) := q9_A5_1.below d10
  clear k10 y9_4_0 y9_4_1 y9_4_2 n9_4 y9_10_0 y9_10_1 n9_10 y9_13_0 y9_13_1 n9_13
  go_wp2_with fail
  refine (markCurve_x (W4.heap.size + 1) W5.heap.size _ _ _ (r0_CurveOfLand a0_0 a0_1 xa0_2 a1 a2 a3) _ _ _ (r1_CurveOfLand a0_0 a0_1 xa0_2 a1 a2 a3) _ _ dis5_0_1 (by omega) (by omega) (by first | omega | (simp; done) | (simp; omega)) hl_r0_CurveOfLand (q10_A5_0.below (by repeat (first | assumption | exact Below.refl _ _ | (refine Below.setCell ?_ (by first | omega | (simp; done) | (simp; omega)) _) | apply below_drewN | apply Below.drew | (refine Below.alloc ?_ (by first | omega | (simp; done) | (simp; omega)) _)))) t5_0 hl_r1_CurveOfLand (q10_A5_1.below (by repeat (first | assumption | exact Below.refl _ _ | (refine Below.setCell ?_ (by first | omega | (simp; done) | (simp; omega)) _) | apply below_drewN | apply Below.drew | (refine Below.alloc ?_ (by first | omega | (simp; done) | (simp; omega)) _)))) t5_1).mono ?_
  rintro e11 W11 ⟨rfl, b11, z11_0, z11_1⟩
  have s11 : W10.heap.size + 0 ≤ W11.heap.size := by have := b11.size; (try simp at this); omega
  have d11 : Chg (W4.heap.size + 1) W5.heap.size W10 W11 := Chg.trans' (by repeat (first | assumption | exact Below.refl _ _ | (refine Below.setCell ?_ (by first | omega | (simp; done) | (simp; omega)) _) | apply below_drewN | apply Below.drew | (refine Below.alloc ?_ (by first | omega | (simp; done) | (simp; omega)) _))) b11
  have D11 : Below w.heap.size w W11 := Below.trans D10 (d11.below (by omega) (by omega))
  have y11_4_0 : W11.cell? ⟨w.heap.size, 0, none⟩ = some (.int .i64 a0_0) := (d11.cell (by omega) (by omega)).trans y10_4_0
  have y11_4_1 : W11.cell? ⟨w.heap.size, 1, none⟩ = some (.int .i64 a0_1) := (d11.cell (by omega) (by omega)).trans y10_4_1
  have y11_4_2 : W11.cell? ⟨w.heap.size, 2, none⟩ = some (.slice a0_2 la0_2 ca0_2) := (d11.cell (by omega) (by omega)).trans y10_4_2
  have n11_4 : w.heap.size < W11.heap.size := by omega
  have y11_10_0 : W11.cell? ⟨W3.heap.size, 0, none⟩ = some (.slice A3_0 (r0_CurveOfLand a0_0 a0_1 xa0_2 a1 a2 a3).length c3_0) := (d11.cell (by omega) (by omega)).trans y10_10_0
  have y11_10_1 : W11.cell? ⟨W3.heap.size, 1, none⟩ = some (.slice A3_1 (r1_CurveOfLand a0_0 a0_1 xa0_2 a1 a2 a3).length c3_1) := (d11.cell (by omega) (by omega)).trans y10_10_1
  have n11_10 : W3.heap.size < W11.heap.size := by omega
  have y11_13_0 : W11.cell? ⟨W5.heap.size, 0, none⟩ = some (.slice A5_0 (r0_CurveOfLand a0_0 a0_1 xa0_2 a1 a2 a3).length c5_0) := (d11.cell (by omega) (by omega)).trans y10_13_0
  have y11_13_1 : W11.cell? ⟨W5.heap.size, 1, none⟩ = some (.slice A5_1 (r1_CurveOfLand a0_0 a0_1 xa0_2 a1 a2 a3).length c5_1) := (d11.cell (by omega) (by omega)).trans y10_13_1
  have n11_13 : W5.heap.size < W11.heap.size := by omega
  have q11_a0_2 : Rd W11 w.heap.size a0_2 la0_2 xa0_2 := q10_a0_2.below (d11.below (by omega) (by omega))
  have q11_A3_0 : Wr W11 (W2.heap.size + 0) A3_0 (r0_CurveOfLand a0_0 a0_1 xa0_2 a1 a2 a3).length (r0_CurveOfLand a0_0 a0_1 xa0_2 a1 a2 a3) := q10_A3_0.chg t3_0 d11 (by omega)
  have q11_A3_1 : Wr W11 (W2.heap.size + 0) A3_1 (r1_CurveOfLand a0_0 a0_1 xa0_2 a1 a2 a3).length (r1_CurveOfLand a0_0 a0_1 xa0_2 a1 a2 a3) := q10_A3_1.chg t3_1 d11 (by omega)
  clear y10_4_0 y10_4_1 y10_4_2 n10_4 y10_10_0 y10_10_1 n10_10 y10_13_0 y10_13_1 n10_13
  go_wp2_with fail
  refine (heldCurve_x _ _ _ _ _ _ _ _ (by omega) (by omega) hl_r0_CurveOfLand (Rd.mono ((z11_0.rd).below (by repeat (first | assumption | exact Below.refl _ _ | (refine Below.setCell ?_ (by first | omega | (simp; done) | (simp; omega)) _) | apply below_drewN | apply Below.drew | (refine Below.alloc ?_ (by first | omega | (simp; done) | (simp; omega)) _)))) (by first | omega | (simp; done) | (simp; omega))) hl_r1_CurveOfLand (Rd.mono ((z11_1.rd).below (by repeat (first | assumption | exact Below.refl _ _ | (refine Below.setCell ?_ (by first | omega | (simp; done) | (simp; omega)) _) | apply below_drewN | apply Below.drew | (refine Below.alloc ?_ (by first | omega | (simp; done) | (simp; omega)) _)))) (by first | omega | (simp; done) | (simp; omega)))).mono ?_
  rintro e12 W12 ⟨rfl, b12⟩
  obtain ⟨k12, _⟩ := bcell b12
  have s12 : W11.heap.size + 0 ≤ W12.heap.size := by have := b12.size; (try simp at this); omega
  have d12 : Below W11.heap.size W11 W12 := (by repeat (first | assumption | exact Below.refl _ _ | (refine Below.trans ?_ (b12.mono (by first | omega | (simp; done) | (simp; omega)))) | (refine Below.setCell ?_ (by first | omega | (simp; done) | (simp; omega)) _) | apply below_drewN | apply Below.drew | (refine Below.alloc ?_ (by first | omega | (simp; done) | (simp; omega)) _)))
  have D12 : Below w.heap.size w W12 := Below.trans D11 (d12.mono (by omega))
  have y12_4_0 : W12.cell? ⟨w.heap.size, 0, none⟩ = some (.int .i64 a0_0) := (d12.cell (p := ⟨w.heap.size, 0, none⟩) (show w.heap.size < W11.heap.size by omega)).trans y11_4_0
  have y12_4_1 : W12.cell? ⟨w.heap.size, 1, none⟩ = some (.int .i64 a0_1) := (d12.cell (p := ⟨w.heap.size, 1, none⟩) (show w.heap.size < W11.heap.size by omega)).trans y11_4_1
  have y12_4_2 : W12.cell? ⟨w.heap.size, 2, none⟩ = some (.slice a0_2 la0_2 ca0_2) := (d12.cell (p := ⟨w.heap.size, 2, none⟩) (show w.heap.size < W11.heap.size by omega)).trans y11_4_2
  have n12_4 : w.heap.size < W12.heap.size := by omega
  have y12_10_0 : W12.cell? ⟨W3.heap.size, 0, none⟩ = some (.slice A3_0 (r0_CurveOfLand a0_0 a0_1 xa0_2 a1 a2 a3).length c3_0) := (d12.cell (p := ⟨W3.heap.size, 0, none⟩) (show W3.heap.size < W11.heap.size by omega)).trans y11_10_0
  have y12_10_1 : W12.cell? ⟨W3.heap.size, 1, none⟩ = some (.slice A3_1 (r1_CurveOfLand a0_0 a0_1 xa0_2 a1 a2 a3).length c3_1) := (d12.cell (p := ⟨W3.heap.size, 1, none⟩) (show W3.heap.size < W11.heap.size by omega)).trans y11_10_1
  have n12_10 : W3.heap.size < W12.heap.size := by omega
  have y12_13_0 : W12.cell? ⟨W5.heap.size, 0, none⟩ = some (.slice A5_0 (r0_CurveOfLand a0_0 a0_1 xa0_2 a1 a2 a3).length c5_0) := (d12.cell (p := ⟨W5.heap.size, 0, none⟩) (show W5.heap.size < W11.heap.size by omega)).trans y11_13_0
  have y12_13_1 : W12.cell? ⟨W5.heap.size, 1, none⟩ = some (.slice A5_1 (r1_CurveOfLand a0_0 a0_1 xa0_2 a1 a2 a3).length c5_1) := (d12.cell (p := ⟨W5.heap.size, 1, none⟩) (show W5.heap.size < W11.heap.size by omega)).trans y11_13_1
  have n12_13 : W5.heap.size < W12.heap.size := by omega
  have q12_a0_2 : Rd W12 w.heap.size a0_2 la0_2 xa0_2 := q11_a0_2.below (d12.mono (by omega))
  have q12_A3_0 : Wr W12 (W2.heap.size + 0) A3_0 (r0_CurveOfLand a0_0 a0_1 xa0_2 a1 a2 a3).length (r0_CurveOfLand a0_0 a0_1 xa0_2 a1 a2 a3) := q11_A3_0.below d12
  have q12_A3_1 : Wr W12 (W2.heap.size + 0) A3_1 (r1_CurveOfLand a0_0 a0_1 xa0_2 a1 a2 a3).length (r1_CurveOfLand a0_0 a0_1 xa0_2 a1 a2 a3) := q11_A3_1.below d12
  have q12_A5_0 : Wr W12 (W4.heap.size + 1) A5_0 (r0_CurveOfLand a0_0 a0_1 xa0_2 a1 a2 a3).length (marks (1) (r0_CurveOfLand a0_0 a0_1 xa0_2 a1 a2 a3).length) := z11_0.below d12
  have q12_A5_1 : Wr W12 (W4.heap.size + 1) A5_1 (r1_CurveOfLand a0_0 a0_1 xa0_2 a1 a2 a3).length (marks (1 + ((r0_CurveOfLand a0_0 a0_1 xa0_2 a1 a2 a3).length : Int)) (r1_CurveOfLand a0_0 a0_1 xa0_2 a1 a2 a3).length) := z11_1.below d12
  clear k12 y11_4_0 y11_4_1 y11_4_2 n11_4 y11_10_0 y11_10_1 n11_10 y11_13_0 y11_13_1 n11_13
  go_wp2_with fail
  refine (toLand_x _ _ _ _ _ xa0_2 _ ha0_2 (Rd.mono (q12_a0_2.below (by repeat (first | assumption | exact Below.refl _ _ | (refine Below.setCell ?_ (by first | omega | (simp; done) | (simp; omega)) _) | apply below_drewN | apply Below.drew | (refine Below.alloc ?_ (by first | omega | (simp; done) | (simp; omega)) _)))) (by first | omega | (simp; done) | (simp; omega)))).mono ?_
  rintro e13 W13 ⟨A13_0, c13_0, rfl, b13, p13_0⟩
  obtain ⟨k13, _⟩ := bcell b13
  have s13 : W12.heap.size + 0 ≤ W13.heap.size := by have := b13.size; (try simp at this); omega
  have d13 : Below W12.heap.size W12 W13 := (by repeat (first | assumption | exact Below.refl _ _ | (refine Below.trans ?_ (b13.mono (by first | omega | (simp; done) | (simp; omega)))) | (refine Below.setCell ?_ (by first | omega | (simp; done) | (simp; omega)) _) | apply below_drewN | apply Below.drew | (refine Below.alloc ?_ (by first | omega | (simp; done) | (simp; omega)) _)))
  have D13 : Below w.heap.size w W13 := Below.trans D12 (d13.mono (by omega))
  have y13_10_0 : W13.cell? ⟨W3.heap.size, 0, none⟩ = some (.slice A3_0 (r0_CurveOfLand a0_0 a0_1 xa0_2 a1 a2 a3).length c3_0) := (d13.cell (p := ⟨W3.heap.size, 0, none⟩) (show W3.heap.size < W12.heap.size by omega)).trans y12_10_0
  have y13_10_1 : W13.cell? ⟨W3.heap.size, 1, none⟩ = some (.slice A3_1 (r1_CurveOfLand a0_0 a0_1 xa0_2 a1 a2 a3).length c3_1) := (d13.cell (p := ⟨W3.heap.size, 1, none⟩) (show W3.heap.size < W12.heap.size by omega)).trans y12_10_1
  have n13_10 : W3.heap.size < W13.heap.size := by omega
  have y13_13_0 : W13.cell? ⟨W5.heap.size, 0, none⟩ = some (.slice A5_0 (r0_CurveOfLand a0_0 a0_1 xa0_2 a1 a2 a3).length c5_0) := (d13.cell (p := ⟨W5.heap.size, 0, none⟩) (show W5.heap.size < W12.heap.size by omega)).trans y12_13_0
  have y13_13_1 : W13.cell? ⟨W5.heap.size, 1, none⟩ = some (.slice A5_1 (r1_CurveOfLand a0_0 a0_1 xa0_2 a1 a2 a3).length c5_1) := (d13.cell (p := ⟨W5.heap.size, 1, none⟩) (show W5.heap.size < W12.heap.size by omega)).trans y12_13_1
  have n13_13 : W5.heap.size < W13.heap.size := by omega
  have q13_A3_0 : Wr W13 (W2.heap.size + 0) A3_0 (r0_CurveOfLand a0_0 a0_1 xa0_2 a1 a2 a3).length (r0_CurveOfLand a0_0 a0_1 xa0_2 a1 a2 a3) := q12_A3_0.below d13
  have q13_A3_1 : Wr W13 (W2.heap.size + 0) A3_1 (r1_CurveOfLand a0_0 a0_1 xa0_2 a1 a2 a3).length (r1_CurveOfLand a0_0 a0_1 xa0_2 a1 a2 a3) := q12_A3_1.below d13
  have q13_A5_0 : Wr W13 (W4.heap.size + 1) A5_0 (r0_CurveOfLand a0_0 a0_1 xa0_2 a1 a2 a3).length (marks (1) (r0_CurveOfLand a0_0 a0_1 xa0_2 a1 a2 a3).length) := q12_A5_0.below d13
  have q13_A5_1 : Wr W13 (W4.heap.size + 1) A5_1 (r1_CurveOfLand a0_0 a0_1 xa0_2 a1 a2 a3).length (marks (1 + ((r0_CurveOfLand a0_0 a0_1 xa0_2 a1 a2 a3).length : Int)) (r1_CurveOfLand a0_0 a0_1 xa0_2 a1 a2 a3).length) := q12_A5_1.below d13
  clear k13 y12_4_0 y12_4_1 y12_4_2 y12_10_0 y12_10_1 n12_10 y12_13_0 y12_13_1 n12_13
  have q13_A13_0 : Wr W13 (W12.heap.size + 0) A13_0 la0_2 xa0_2 := p13_0.lower (by first | omega | (simp; done) | (simp; omega))
  have t13_0 := q13_A13_0.lt
  go_wp2_with fail
  refine (implC_CurveOfLand _ _ _ _ _ xa0_2 _ _ _ _ ha0_0 ha0_1 ha0_2 (Rd.mono ((q13_A13_0.rd).below (by repeat (first | assumption | exact Below.refl _ _ | (refine Below.setCell ?_ (by first | omega | (simp; done) | (simp; omega)) _) | apply below_drewN | apply Below.drew | (refine Below.alloc ?_ (by first | omega | (simp; done) | (simp; omega)) _)))) (by first | omega | (simp; done) | (simp; omega))) fa0_2 ha1 ha2 ha3).mono ?_
  rintro e14 W14 ⟨A14_0, A14_1, c14_0, c14_1, rfl, b14, p14_0, p14_1, dis14_0_1⟩
  obtain ⟨k14, _⟩ := bcell b14
  have s14 : W13.heap.size + 0 ≤ W14.heap.size := by have := b14.size; (try simp at this); omega
  have d14 : Below W13.heap.size W13 W14 := (by repeat (first | assumption | exact Below.refl _ _ | (refine Below.trans ?_ (b14.mono (by first | omega | (simp; done) | (simp; omega)))) | (refine Below.setCell ?_ (by first | omega | (simp; done) | (simp; omega)) _) | apply below_drewN | apply Below.drew | (refine Below.alloc ?_ (by first | omega | (simp; done) | (simp; omega)) _)))
  have D14 : Below w.heap.size w W14 := Below.trans D13 (d14.mono (by omega))
  have y14_10_0 : W14.cell? ⟨W3.heap.size, 0, none⟩ = some (.slice A3_0 (r0_CurveOfLand a0_0 a0_1 xa0_2 a1 a2 a3).length c3_0) := (d14.cell (p := ⟨W3.heap.size, 0, none⟩) (show W3.heap.size < W13.heap.size by omega)).trans y13_10_0
  have y14_10_1 : W14.cell? ⟨W3.heap.size, 1, none⟩ = some (.slice A3_1 (r1_CurveOfLand a0_0 a0_1 xa0_2 a1 a2 a3).length c3_1) := (d14.cell (p := ⟨W3.heap.size, 1, none⟩) (show W3.heap.size < W13.heap.size by omega)).trans y13_10_1
  have n14_10 : W3.heap.size < W14.heap.size := by omega
  have y14_13_0 : W14.cell? ⟨W5.heap.size, 0, none⟩ = some (.slice A5_0 (r0_CurveOfLand a0_0 a0_1 xa0_2 a1 a2 a3).length c5_0) := (d14.cell (p := ⟨W5.heap.size, 0, none⟩) (show W5.heap.size < W13.heap.size by omega)).trans y13_13_0
  have y14_13_1 : W14.cell? ⟨W5.heap.size, 1, none⟩ = some (.slice A5_1 (r1_CurveOfLand a0_0 a0_1 xa0_2 a1 a2 a3).length c5_1) := (d14.cell (p := ⟨W5.heap.size, 1, none⟩) (show W5.heap.size < W13.heap.size by omega)).trans y13_13_1
  have n14_13 : W5.heap.size < W14.heap.size := by omega
  have q14_A3_0 : Wr W14 (W2.heap.size + 0) A3_0 (r0_CurveOfLand a0_0 a0_1 xa0_2 a1 a2 a3).length (r0_CurveOfLand a0_0 a0_1 xa0_2 a1 a2 a3) := q13_A3_0.below d14
  have q14_A3_1 : Wr W14 (W2.heap.size + 0) A3_1 (r1_CurveOfLand a0_0 a0_1 xa0_2 a1 a2 a3).length (r1_CurveOfLand a0_0 a0_1 xa0_2 a1 a2 a3) := q13_A3_1.below d14
  have q14_A5_0 : Wr W14 (W4.heap.size + 1) A5_0 (r0_CurveOfLand a0_0 a0_1 xa0_2 a1 a2 a3).length (marks (1) (r0_CurveOfLand a0_0 a0_1 xa0_2 a1 a2 a3).length) := q13_A5_0.below d14
  have q14_A5_1 : Wr W14 (W4.heap.size + 1) A5_1 (r1_CurveOfLand a0_0 a0_1 xa0_2 a1 a2 a3).length (marks (1 + ((r0_CurveOfLand a0_0 a0_1 xa0_2 a1 a2 a3).length : Int)) (r1_CurveOfLand a0_0 a0_1 xa0_2 a1 a2 a3).length) := q13_A5_1.below d14
  clear k14 y13_10_0 y13_10_1 n13_10 y13_13_0 y13_13_1 n13_13
  have q14_A14_0 : Wr W14 (W13.heap.size + 0) A14_0 (r0_CurveOfLand a0_0 a0_1 xa0_2 a1 a2 a3).length (r0_CurveOfLand a0_0 a0_1 xa0_2 a1 a2 a3) := p14_0.lower (by first | omega | (simp; done) | (simp; omega))
  have t14_0 := q14_A14_0.lt
  have q14_A14_1 : Wr W14 (W13.heap.size + 0) A14_1 (r1_CurveOfLand a0_0 a0_1 xa0_2 a1 a2 a3).length (r1_CurveOfLand a0_0 a0_1 xa0_2 a1 a2 a3) := p14_1.lower (by first | omega | (simp; done) | (simp; omega))
  have t14_1 := q14_A14_1.lt
  go_wp2_with fail
  refine (eqCurve_x _ _ _ _ _ (r0_CurveOfLand a0_0 a0_1 xa0_2 a1 a2 a3) _ _ _ _ _ (r1_CurveOfLand a0_0 a0_1 xa0_2 a1 a2 a3) _ hl_r0_CurveOfLand (Rd.mono ((q14_A14_0.rd).below (by repeat (first | assumption | exact Below.refl _ _ | (refine Below.setCell ?_ (by first | omega | (simp; done) | (simp; omega)) _) | apply below_drewN | apply Below.drew | (refine Below.alloc ?_ (by first | omega | (simp; done) | (simp; omega)) _)))) (by first | omega | (simp; done) | (simp; omega))) (Rd.mono ((q14_A3_0.rd).below (by repeat (first | assumption | exact Below.refl _ _ | (refine Below.setCell ?_ (by first | omega | (simp; done) | (simp; omega)) _) | apply below_drewN | apply Below.drew | (refine Below.alloc ?_ (by first | omega | (simp; done) | (simp; omega)) _)))) (by first | omega | (simp; done) | (simp; omega))) hl_r1_CurveOfLand (Rd.mono ((q14_A14_1.rd).below (by repeat (first | assumption | exact Below.refl _ _ | (refine Below.setCell ?_ (by first | omega | (simp; done) | (simp; omega)) _) | apply below_drewN | apply Below.drew | (refine Below.alloc ?_ (by first | omega | (simp; done) | (simp; omega)) _)))) (by first | omega | (simp; done) | (simp; omega))) (Rd.mono ((q14_A3_1.rd).below (by repeat (first | assumption | exact Below.refl _ _ | (refine Below.setCell ?_ (by first | omega | (simp; done) | (simp; omega)) _) | apply below_drewN | apply Below.drew | (refine Below.alloc ?_ (by first | omega | (simp; done) | (simp; omega)) _)))) (by first | omega | (simp; done) | (simp; omega)))).mono ?_
  rintro e15 W15 ⟨rfl, b15⟩
  obtain ⟨k15, _⟩ := bcell b15
  have s15 : W14.heap.size + 1 ≤ W15.heap.size := by have := b15.size; (try simp at this); omega
  have d15 : Below W14.heap.size W14 W15 := (by repeat (first | assumption | exact Below.refl _ _ | (refine Below.trans ?_ (b15.mono (by first | omega | (simp; done) | (simp; omega)))) | (refine Below.setCell ?_ (by first | omega | (simp; done) | (simp; omega)) _) | apply below_drewN | apply Below.drew | (refine Below.alloc ?_ (by first | omega | (simp; done) | (simp; omega)) _)))
  have D15 : Below w.heap.size w W15 := Below.trans D14 (d15.mono (by omega))
  have y15_13_0 : W15.cell? ⟨W5.heap.size, 0, none⟩ = some (.slice A5_0 (r0_CurveOfLand a0_0 a0_1 xa0_2 a1 a2 a3).length c5_0) := (d15.cell (p := ⟨W5.heap.size, 0, none⟩) (show W5.heap.size < W14.heap.size by omega)).trans y14_13_0
  have y15_13_1 : W15.cell? ⟨W5.heap.size, 1, none⟩ = some (.slice A5_1 (r1_CurveOfLand a0_0 a0_1 xa0_2 a1 a2 a3).length c5_1) := (d15.cell (p := ⟨W5.heap.size, 1, none⟩) (show W5.heap.size < W14.heap.size by omega)).trans y14_13_1
  have n15_13 : W5.heap.size < W15.heap.size := by omega
  have q15_A5_0 : Wr W15 (W4.heap.size + 1) A5_0 (r0_CurveOfLand a0_0 a0_1 xa0_2 a1 a2 a3).length (marks (1) (r0_CurveOfLand a0_0 a0_1 xa0_2 a1 a2 a3).length) := q14_A5_0.below d15
  have q15_A5_1 : Wr W15 (W4.heap.size + 1) A5_1 (r1_CurveOfLand a0_0 a0_1 xa0_2 a1 a2 a3).length (marks (1 + ((r0_CurveOfLand a0_0 a0_1 xa0_2 a1 a2 a3).length : Int)) (r1_CurveOfLand a0_0 a0_1 xa0_2 a1 a2 a3).length) := q14_A5_1.below d15
  clear k15 y14_10_0 y14_10_1 y14_13_0 y14_13_1 n14_13
  go_wp2_with fail
  refine (heldCurve_x _ _ _ _ _ _ _ _ (by omega) (by omega) hl_r0_CurveOfLand (Rd.mono ((q15_A5_0.rd).below (by repeat (first | assumption | exact Below.refl _ _ | (refine Below.setCell ?_ (by first | omega | (simp; done) | (simp; omega)) _) | apply below_drewN | apply Below.drew | (refine Below.alloc ?_ (by first | omega | (simp; done) | (simp; omega)) _)))) (by first | omega | (simp; done) | (simp; omega))) hl_r1_CurveOfLand (Rd.mono ((q15_A5_1.rd).below (by repeat (first | assumption | exact Below.refl _ _ | (refine Below.setCell ?_ (by first | omega | (simp; done) | (simp; omega)) _) | apply below_drewN | apply Below.drew | (refine Below.alloc ?_ (by first | omega | (simp; done) | (simp; omega)) _)))) (by first | omega | (simp; done) | (simp; omega)))).mono ?_
  rintro e16 W16 ⟨rfl, b16⟩
  obtain ⟨k16, _⟩ := bcell b16
  have s16 : W15.heap.size + 0 ≤ W16.heap.size := by have := b16.size; (try simp at this); omega
  have d16 : Below W15.heap.size W15 W16 := (by repeat (first | assumption | exact Below.refl _ _ | (refine Below.trans ?_ (b16.mono (by first | omega | (simp; done) | (simp; omega)))) | (refine Below.setCell ?_ (by first | omega | (simp; done) | (simp; omega)) _) | apply below_drewN | apply Below.drew | (refine Below.alloc ?_ (by first | omega | (simp; done) | (simp; omega)) _)))
  have D16 : Below w.heap.size w W16 := Below.trans D15 (d16.mono (by omega))
  clear k16 y15_13_0 y15_13_1
  go_wp2
  go_ret
  exact ⟨rfl, (by repeat (first | assumption | exact Below.refl _ _ | (refine Below.trans ?_ (D16.mono (by first | omega | (simp; done) | (simp; omega)))) | (refine Below.setCell ?_ (by first | omega | (simp; done) | (simp; omega)) _) | apply below_drewN | apply Below.drew | (refine Below.alloc ?_ (by first | omega | (simp; done) | (simp; omega)) _)))⟩

set_option maxRecDepth 100000 in
set_option maxHeartbeats 1000000 in
theorem walk_FnExactCurveOfLand (a0_0 : Int) (a0_1 : Int) (a0_2 : Option Addr) (la0_2 ca0_2 : Nat) (za0_2 : List Int) (a1 : Int) (a2 : Int) (a3 : Int) (w : World) (wa0_0 : (Lit.int .i64 a0_0).wf = true) (wa0_1 : (Lit.int .i64 a0_1).wf = true) (wa0_2 : IsRow .i64 w a0_2 la0_2 ca0_2 za0_2) (wa1 : (Lit.int .i64 a1).wf = true) (wa2 : (Lit.int .i64 a2).wf = true) (wa3 : (Lit.int .i64 a3).wf = true) :
    Calls Try.prog 8 #[.agg #[.int .i64 a0_0, .int .i64 a0_1, .slice a0_2 la0_2 ca0_2], .int .i64 a1, .int .i64 a2, .int .i64 a3] w fun e w' => e = .returned (.bool true) ∧ Below w.heap.size w w' := by
  have ma0_2 := wa0_2.len
  unfold maxLen at ma0_2
  by_cases htot : la0_2 ≤ 1048576
  case neg =>
    go_enter Try.func8, Try.ntmps8
    go_wp2
    all_goals (first | (go_ret; exact ⟨rfl, (by repeat (first | assumption | exact Below.refl _ _ | (refine Below.setCell ?_ (by first | omega | (simp; done) | (simp; omega)) _) | apply below_drewN | apply Below.drew | (refine Below.alloc ?_ (by first | omega | (simp; done) | (simp; omega)) _)))⟩) | (exfalso; omega))
  exact law_CurveOfLand a0_0 a0_1 a0_2 la0_2 ca0_2 (za0_2.take la0_2) a1 a2 a3 w wa0_0 wa0_1 (by omega) wa0_2.rd wa0_2.wf wa1 wa2 wa3 htot

end Go.Proofs.Ytcimigaimlojlaa
