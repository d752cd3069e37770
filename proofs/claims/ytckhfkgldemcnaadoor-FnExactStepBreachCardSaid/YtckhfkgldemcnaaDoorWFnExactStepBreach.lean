/- The walk of the law on StepBreach: written by a program out of the law's operations. -/
import Derived.Test.YtckhfkgldemcnaaDoorCStepBreach
import Derived.Deep.DeepCutAuto
import Derived.Test.YtckhfkgldemcnaaDoorSent
import Derived.Test.YtckhfkgldemcnaaDoorOut
namespace Go.Proofs.YtckhfkgldemcnaaDoor
open Go.RowKit

set_option maxRecDepth 100000 in
set_option maxHeartbeats 4000000 in
theorem law_StepBreach (a0_0 : Option Addr) (la0_0 ca0_0 : Nat) (xa0_0 : List Int) (a0_1 : Option Addr) (la0_1 ca0_1 : Nat) (xa0_1 : List Int) (a1_0 : Int) (a1_1 : Int) (a1_2 : Int) (a2 : Int) (a3 : Int) (w : World) (ha0_0 : la0_0 ≤ 1048576) (ra0_0 : Rd w w.heap.size a0_0 la0_0 xa0_0) (fa0_0 : Wf xa0_0) (ha0_1 : la0_1 ≤ 1048576) (ra0_1 : Rd w w.heap.size a0_1 la0_1 xa0_1) (fa0_1 : Wf xa0_1) (ha1_0 : (Lit.int .i64 a1_0).wf = true) (ha1_1 : (Lit.int .i64 a1_1).wf = true) (ha1_2 : (Lit.int .i64 a1_2).wf = true) (ha2 : (Lit.int .i64 a2).wf = true) (ha3 : (Lit.int .i64 a3).wf = true) (htot : la0_0 + la0_1 ≤ 1048576) (se0 se1 : Addr) (hsent : Sent w w.heap.size se0 se1) :
    Calls Tryd.prog 5 #[.agg #[.slice a0_0 la0_0 ca0_0, .slice a0_1 la0_1 ca0_1], .agg #[.int .i64 a1_0, .int .i64 a1_1, .int .i64 a1_2], .int .i64 a2, .int .i64 a3] w fun e w' => e = .returned (.bool true) ∧ Below w.heap.size w w' := by
  have er0_StepBreach : ((r0_StepBreach xa0_0 xa0_1 a1_0 a1_1 a1_2 a2 a3) != (r0_StepBreach xa0_0 xa0_1 a1_0 a1_1 a1_2 a2 a3)) = false := by simp
  have er1_StepBreach : ((r1_StepBreach xa0_0 xa0_1 a1_0 a1_1 a1_2 a2 a3) != (r1_StepBreach xa0_0 xa0_1 a1_0 a1_1 a1_2 a2 a3)) = false := by simp
  have er2_StepBreach : ((r2_StepBreach xa0_0 xa0_1 a1_0 a1_1 a1_2 a2 a3) != (r2_StepBreach xa0_0 xa0_1 a1_0 a1_1 a1_2 a2 a3)) = false := by simp
  have er3_StepBreach : ((r3_StepBreach xa0_0 xa0_1 a1_0 a1_1 a1_2 a2 a3) != (r3_StepBreach xa0_0 xa0_1 a1_0 a1_1 a1_2 a2 a3)) = false := by simp
  go_enter Tryd.func5, Tryd.ntmps5
  go_wp2_with fail
  refine (szCurve_ok _ _ _ _ _ _ _ _ (by omega) (by omega)).mono ?_
  rintro e1 W1 ⟨rfl, b1⟩
  obtain ⟨k1, _⟩ := bcell b1
  have s1 : w.heap.size + 2 ≤ W1.heap.size := by have := b1.size; (try simp at this); omega
  have d1 : Below w.heap.size w W1 := (by repeat (first | assumption | exact Below.refl _ _ | (refine Below.trans ?_ (b1.mono (by first | omega | (simp; done) | (simp; omega)))) | (refine Below.setCell ?_ (by first | omega | (simp; done) | (simp; omega)) _) | apply below_drewN | apply Below.drew | (refine Below.alloc ?_ (by first | omega | (simp; done) | (simp; omega)) _)))
  have D1 : Below w.heap.size w W1 := (d1.mono (by omega))
  have y1_4_0 : W1.cell? ⟨w.heap.size, 0, none⟩ = some (.slice a0_0 la0_0 ca0_0) := by rw [k1 _ _ (by first | omega | (simp; done) | (simp; omega))]; first | (simp; done) | go_simp
  have y1_4_1 : W1.cell? ⟨w.heap.size, 1, none⟩ = some (.slice a0_1 la0_1 ca0_1) := by rw [k1 _ _ (by first | omega | (simp; done) | (simp; omega))]; first | (simp; done) | go_simp
  have n1_4 : w.heap.size < W1.heap.size := by omega
  have y1_5_0 : W1.cell? ⟨w.heap.size + 1, 0, none⟩ = some (.int .i64 a1_0) := by rw [k1 _ _ (by first | omega | (simp; done) | (simp; omega))]; first | (simp; done) | go_simp
  have y1_5_1 : W1.cell? ⟨w.heap.size + 1, 1, none⟩ = some (.int .i64 a1_1) := by rw [k1 _ _ (by first | omega | (simp; done) | (simp; omega))]; first | (simp; done) | go_simp
  have y1_5_2 : W1.cell? ⟨w.heap.size + 1, 2, none⟩ = some (.int .i64 a1_2) := by rw [k1 _ _ (by first | omega | (simp; done) | (simp; omega))]; first | (simp; done) | go_simp
  have n1_5 : w.heap.size + 1 < W1.heap.size := by omega
  have q1_a0_0 : Rd W1 w.heap.size a0_0 la0_0 xa0_0 := ra0_0.below (d1.mono (by omega))
  have q1_a0_1 : Rd W1 w.heap.size a0_1 la0_1 xa0_1 := ra0_1.below (d1.mono (by omega))
  clear k1
  have x5_0 : ¬ w.heap.size = W1.heap.size := by omega
  have x5_0' : ¬ W1.heap.size = w.heap.size := by omega
  have x5_1 : ¬ w.heap.size + 1 = W1.heap.size := by omega
  have x5_1' : ¬ W1.heap.size = w.heap.size + 1 := by omega
  go_upto_region 5 with fail
  go_cut [10, 11] (fun s10 s11 W5' => ∃ (W5 : World) (g5 : Nat) , W5 = W5' ∧ s10 = .pointer (some ⟨g5, 0, none⟩) ∧ s11 = .int .i64 (r3_StepBreach xa0_0 xa0_1 a1_0 a1_1 a1_2 a2 a3) ∧ W1.heap.size ≤ g5 ∧ g5 < W5.heap.size ∧ g5 < W5.heap.size ∧ Below w.heap.size w W5 ∧ W1.heap.size + 0 ≤ W5.heap.size ∧ W5.cell? ⟨w.heap.size, 0, none⟩ = some (.slice a0_0 la0_0 ca0_0) ∧ W5.cell? ⟨w.heap.size, 1, none⟩ = some (.slice a0_1 la0_1 ca0_1) ∧ w.heap.size < W5.heap.size ∧ W5.cell? ⟨w.heap.size + 1, 0, none⟩ = some (.int .i64 a1_0) ∧ W5.cell? ⟨w.heap.size + 1, 1, none⟩ = some (.int .i64 a1_1) ∧ W5.cell? ⟨w.heap.size + 1, 2, none⟩ = some (.int .i64 a1_2) ∧ w.heap.size + 1 < W5.heap.size ∧ W5.cell? ⟨g5, 0, none⟩ = some (.int .i64 (r0_StepBreach xa0_0 xa0_1 a1_0 a1_1 a1_2 a2 a3)) ∧ W5.cell? ⟨g5, 1, none⟩ = some (.int .i64 (r1_StepBreach xa0_0 xa0_1 a1_0 a1_1 a1_2 a2 a3)) ∧ W5.cell? ⟨g5, 2, none⟩ = some (.int .i64 (r2_StepBreach xa0_0 xa0_1 a1_0 a1_1 a1_2 a2 a3)) ∧ Rd W5 w.heap.size a0_0 la0_0 xa0_0 ∧ Rd W5 w.heap.size a0_1 la0_1 xa0_1)
  case first =>
    go_region_held3 (fun w' => w'.cell? ⟨w.heap.size, 0, none⟩ = some (.slice a0_0 la0_0 ca0_0) ∧ w'.cell? ⟨w.heap.size, 1, none⟩ = some (.slice a0_1 la0_1 ca0_1) ∧ w'.cell? ⟨w.heap.size + 1, 0, none⟩ = some (.int .i64 a1_0) ∧ w'.cell? ⟨w.heap.size + 1, 1, none⟩ = some (.int .i64 a1_1) ∧ w'.cell? ⟨w.heap.size + 1, 2, none⟩ = some (.int .i64 a1_2)) (first | ((refine ⟨?_, ?_, ?_, ?_, ?_⟩ <;> (repeat (first | (with_reducible assumption) | (with_reducible refine keepA ?_) | (with_reducible refine keepD ?_) | ((with_reducible refine keep1 ?_ ?_); rotate_left 1; omega) | (simp; done)))); done) | go_keep) (first | (go_at_call 15; refine (toCurve_x _ _ _ xa0_0 _ _ _ xa0_1 _ ha0_0 (Rd.mono (q1_a0_0.below (by repeat (first | assumption | exact Below.refl _ _ | (refine Below.setCell ?_ (by first | omega | (simp; done) | (simp; omega)) _) | apply below_drewN | apply Below.drew | (refine Below.alloc ?_ (by first | omega | (simp; done) | (simp; omega)) _)))) (by first | omega | (simp; done) | (simp; omega))) ha0_1 (Rd.mono (q1_a0_1.below (by repeat (first | assumption | exact Below.refl _ _ | (refine Below.setCell ?_ (by first | omega | (simp; done) | (simp; omega)) _) | apply below_drewN | apply Below.drew | (refine Below.alloc ?_ (by first | omega | (simp; done) | (simp; omega)) _)))) (by first | omega | (simp; done) | (simp; omega)))).mono ?_; rintro e2 W2 ⟨A2_0, A2_1, c2_0, c2_1, rfl, b2, p2_0, p2_1, dis2_0_1⟩; obtain ⟨k2, f2⟩ := bcell b2; (have s2 : W1.heap.size + 0 ≤ W2.heap.size := by have := b2.size; (try simp at this); omega); (have d2 : Below W1.heap.size W1 W2 := (by repeat (first | assumption | exact Below.refl _ _ | (refine Below.trans ?_ (b2.mono (by first | omega | (simp; done) | (simp; omega)))) | (refine Below.setCell ?_ (by first | omega | (simp; done) | (simp; omega)) _) | apply below_drewN | apply Below.drew | (refine Below.alloc ?_ (by first | omega | (simp; done) | (simp; omega)) _)))); (have D2 : Below w.heap.size w W2 := Below.trans D1 (d2.mono (by omega))); (have y2_4_0 : W2.cell? ⟨w.heap.size, 0, none⟩ = some (.slice a0_0 la0_0 ca0_0) := (d2.cell (p := ⟨w.heap.size, 0, none⟩) (show w.heap.size < W1.heap.size by omega)).trans y1_4_0); (have y2_4_1 : W2.cell? ⟨w.heap.size, 1, none⟩ = some (.slice a0_1 la0_1 ca0_1) := (d2.cell (p := ⟨w.heap.size, 1, none⟩) (show w.heap.size < W1.heap.size by omega)).trans y1_4_1); (have n2_4 : w.heap.size < W2.heap.size := by omega); (have y2_5_0 : W2.cell? ⟨w.heap.size + 1, 0, none⟩ = some (.int .i64 a1_0) := (d2.cell (p := ⟨w.heap.size + 1, 0, none⟩) (show w.heap.size + 1 < W1.heap.size by omega)).trans y1_5_0); (have y2_5_1 : W2.cell? ⟨w.heap.size + 1, 1, none⟩ = some (.int .i64 a1_1) := (d2.cell (p := ⟨w.heap.size + 1, 1, none⟩) (show w.heap.size + 1 < W1.heap.size by omega)).trans y1_5_1); (have y2_5_2 : W2.cell? ⟨w.heap.size + 1, 2, none⟩ = some (.int .i64 a1_2) := (d2.cell (p := ⟨w.heap.size + 1, 2, none⟩) (show w.heap.size + 1 < W1.heap.size by omega)).trans y1_5_2); (have n2_5 : w.heap.size + 1 < W2.heap.size := by omega); (have q2_a0_0 : Rd W2 w.heap.size a0_0 la0_0 xa0_0 := q1_a0_0.below (d2.mono (by omega))); (have q2_a0_1 : Rd W2 w.heap.size a0_1 la0_1 xa0_1 := q1_a0_1.below (d2.mono (by omega))); clear y1_4_0 y1_4_1 n1_4 y1_5_0 y1_5_1 y1_5_2 n1_5; (have q2_A2_0 : Wr W2 (W1.heap.size + 0) A2_0 la0_0 xa0_0 := p2_0.lower (by first | omega | (simp; done) | (simp; omega))); (have t2_0 := q2_A2_0.lt); (have q2_A2_1 : Wr W2 (W1.heap.size + 0) A2_1 la0_1 xa0_1 := p2_1.lower (by first | omega | (simp; done) | (simp; omega))); (have t2_1 := q2_A2_1.lt); (try have v2_0 : W1.heap.size < W2.heap.size := (by have := b2.size; (try simp at this); omega)); (have x2_0 : ¬ w.heap.size = W2.heap.size := (by omega)); (have x2_0' : ¬ W2.heap.size = w.heap.size := (by omega)); (have x2_1 : ¬ w.heap.size + 1 = W2.heap.size := (by omega)); (have x2_1' : ¬ W2.heap.size = w.heap.size + 1 := (by omega))) | (go_at_call 16; refine (toBreach_x _ _ _ _ ).mono ?_; rintro e3 W3 ⟨rfl, b3⟩; obtain ⟨k3, f3⟩ := bcell b3; (have s3 : W2.heap.size + 0 ≤ W3.heap.size := by have := b3.size; (try simp at this); omega); (have d3 : Below W2.heap.size W2 W3 := (by repeat (first | assumption | exact Below.refl _ _ | (refine Below.trans ?_ (b3.mono (by first | omega | (simp; done) | (simp; omega)))) | (refine Below.setCell ?_ (by first | omega | (simp; done) | (simp; omega)) _) | apply below_drewN | apply Below.drew | (refine Below.alloc ?_ (by first | omega | (simp; done) | (simp; omega)) _)))); (have D3 : Below w.heap.size w W3 := Below.trans D2 (d3.mono (by omega))); (have y3_4_0 : W3.cell? ⟨w.heap.size, 0, none⟩ = some (.slice a0_0 la0_0 ca0_0) := (d3.cell (p := ⟨w.heap.size, 0, none⟩) (show w.heap.size < W2.heap.size by omega)).trans y2_4_0); (have y3_4_1 : W3.cell? ⟨w.heap.size, 1, none⟩ = some (.slice a0_1 la0_1 ca0_1) := (d3.cell (p := ⟨w.heap.size, 1, none⟩) (show w.heap.size < W2.heap.size by omega)).trans y2_4_1); (have n3_4 : w.heap.size < W3.heap.size := by omega); (have y3_5_0 : W3.cell? ⟨w.heap.size + 1, 0, none⟩ = some (.int .i64 a1_0) := (d3.cell (p := ⟨w.heap.size + 1, 0, none⟩) (show w.heap.size + 1 < W2.heap.size by omega)).trans y2_5_0); (have y3_5_1 : W3.cell? ⟨w.heap.size + 1, 1, none⟩ = some (.int .i64 a1_1) := (d3.cell (p := ⟨w.heap.size + 1, 1, none⟩) (show w.heap.size + 1 < W2.heap.size by omega)).trans y2_5_1); (have y3_5_2 : W3.cell? ⟨w.heap.size + 1, 2, none⟩ = some (.int .i64 a1_2) := (d3.cell (p := ⟨w.heap.size + 1, 2, none⟩) (show w.heap.size + 1 < W2.heap.size by omega)).trans y2_5_2); (have n3_5 : w.heap.size + 1 < W3.heap.size := by omega); (have q3_a0_0 : Rd W3 w.heap.size a0_0 la0_0 xa0_0 := q2_a0_0.below (d3.mono (by omega))); (have q3_a0_1 : Rd W3 w.heap.size a0_1 la0_1 xa0_1 := q2_a0_1.below (d3.mono (by omega))); (have q3_A2_0 : Wr W3 (W1.heap.size + 0) A2_0 la0_0 xa0_0 := q2_A2_0.below d3); (have q3_A2_1 : Wr W3 (W1.heap.size + 0) A2_1 la0_1 xa0_1 := q2_A2_1.below d3); clear y2_4_0 y2_4_1 n2_4 y2_5_0 y2_5_1 y2_5_2 n2_5; (try have v3_0 : W1.heap.size < W3.heap.size := (by have := b3.size; (try simp at this); omega)); (try have v3_1 : W2.heap.size < W3.heap.size := (by have := b3.size; (try simp at this); omega)); (have x3_0 : ¬ w.heap.size = W3.heap.size := (by omega)); (have x3_0' : ¬ W3.heap.size = w.heap.size := (by omega)); (have x3_1 : ¬ w.heap.size + 1 = W3.heap.size := (by omega)); (have x3_1' : ¬ W3.heap.size = w.heap.size + 1 := (by omega))) | (go_at_call 21; refine (specC_StepBreach _ _ _ xa0_0 _ _ _ xa0_1 _ _ _ _ _ _ ha0_0 (Rd.mono ((q3_A2_0.rd).below (by repeat (first | assumption | exact Below.refl _ _ | (refine Below.setCell ?_ (by first | omega | (simp; done) | (simp; omega)) _) | apply below_drewN | apply Below.drew | (refine Below.alloc ?_ (by first | omega | (simp; done) | (simp; omega)) _)))) (by first | omega | (simp; done) | (simp; omega))) fa0_0 ha0_1 (Rd.mono ((q3_A2_1.rd).below (by repeat (first | assumption | exact Below.refl _ _ | (refine Below.setCell ?_ (by first | omega | (simp; done) | (simp; omega)) _) | apply below_drewN | apply Below.drew | (refine Below.alloc ?_ (by first | omega | (simp; done) | (simp; omega)) _)))) (by first | omega | (simp; done) | (simp; omega))) fa0_1 ha1_0 ha1_1 ha1_2 ha2 ha3).mono ?_; rintro e4 W4 ⟨rfl, b4⟩; obtain ⟨k4, f4⟩ := bcell b4; (have s4 : W3.heap.size + 0 ≤ W4.heap.size := by have := b4.size; (try simp at this); omega); (have d4 : Below W3.heap.size W3 W4 := (by repeat (first | assumption | exact Below.refl _ _ | (refine Below.trans ?_ (b4.mono (by first | omega | (simp; done) | (simp; omega)))) | (refine Below.setCell ?_ (by first | omega | (simp; done) | (simp; omega)) _) | apply below_drewN | apply Below.drew | (refine Below.alloc ?_ (by first | omega | (simp; done) | (simp; omega)) _)))); (have D4 : Below w.heap.size w W4 := Below.trans D3 (d4.mono (by omega))); (have y4_4_0 : W4.cell? ⟨w.heap.size, 0, none⟩ = some (.slice a0_0 la0_0 ca0_0) := (d4.cell (p := ⟨w.heap.size, 0, none⟩) (show w.heap.size < W3.heap.size by omega)).trans y3_4_0); (have y4_4_1 : W4.cell? ⟨w.heap.size, 1, none⟩ = some (.slice a0_1 la0_1 ca0_1) := (d4.cell (p := ⟨w.heap.size, 1, none⟩) (show w.heap.size < W3.heap.size by omega)).trans y3_4_1); (have n4_4 : w.heap.size < W4.heap.size := by omega); (have y4_5_0 : W4.cell? ⟨w.heap.size + 1, 0, none⟩ = some (.int .i64 a1_0) := (d4.cell (p := ⟨w.heap.size + 1, 0, none⟩) (show w.heap.size + 1 < W3.heap.size by omega)).trans y3_5_0); (have y4_5_1 : W4.cell? ⟨w.heap.size + 1, 1, none⟩ = some (.int .i64 a1_1) := (d4.cell (p := ⟨w.heap.size + 1, 1, none⟩) (show w.heap.size + 1 < W3.heap.size by omega)).trans y3_5_1); (have y4_5_2 : W4.cell? ⟨w.heap.size + 1, 2, none⟩ = some (.int .i64 a1_2) := (d4.cell (p := ⟨w.heap.size + 1, 2, none⟩) (show w.heap.size + 1 < W3.heap.size by omega)).trans y3_5_2); (have n4_5 : w.heap.size + 1 < W4.heap.size := by omega); (have q4_a0_0 : Rd W4 w.heap.size a0_0 la0_0 xa0_0 := q3_a0_0.below (d4.mono (by omega))); (have q4_a0_1 : Rd W4 w.heap.size a0_1 la0_1 xa0_1 := q3_a0_1.below (d4.mono (by omega))); clear y3_4_0 y3_4_1 n3_4 y3_5_0 y3_5_1 y3_5_2 n3_5; (try have v4_0 : W1.heap.size < W4.heap.size := (by have := b4.size; (try simp at this); omega)); (try have v4_1 : W2.heap.size < W4.heap.size := (by have := b4.size; (try simp at this); omega)); (try have v4_2 : W3.heap.size < W4.heap.size := (by have := b4.size; (try simp at this); omega)); (have x4_0 : ¬ w.heap.size = W4.heap.size := (by omega)); (have x4_0' : ¬ W4.heap.size = w.heap.size := (by omega)); (have x4_1 : ¬ w.heap.size + 1 = W4.heap.size := (by omega)); (have x4_1' : ¬ W4.heap.size = w.heap.size + 1 := (by omega))))
    all_goals (go_wp2_with fail; go_meet; first | (have ho : Out W4 (((W4.setCell ⟨W1.heap.size, 0, none⟩ (.int .i64 (r0_StepBreach xa0_0 xa0_1 a1_0 a1_1 a1_2 a2 a3))).setCell ⟨W1.heap.size, 1, none⟩ (.int .i64 (r1_StepBreach xa0_0 xa0_1 a1_0 a1_1 a1_2 a2 a3))).setCell ⟨W1.heap.size, 2, none⟩ (.int .i64 (r2_StepBreach xa0_0 xa0_1 a1_0 a1_1 a1_2 a2 a3))) (W1.heap.size) [(.int .i64 (r0_StepBreach xa0_0 xa0_1 a1_0 a1_1 a1_2 a2 a3)), (.int .i64 (r1_StepBreach xa0_0 xa0_1 a1_0 a1_1 a1_2 a2 a3)), (.int .i64 (r2_StepBreach xa0_0 xa0_1 a1_0 a1_1 a1_2 a2 a3))] := Out.put W4 (W1.heap.size) [(.int .i64 (r0_StepBreach xa0_0 xa0_1 a1_0 a1_1 a1_2 a2 a3)), (.int .i64 (r1_StepBreach xa0_0 xa0_1 a1_0 a1_1 a1_2 a2 a3)), (.int .i64 (r2_StepBreach xa0_0 xa0_1 a1_0 a1_1 a1_2 a2 a3))] (by first | omega | (simp; done) | (simp; omega)) (fun i hi => match i, hi with | 0, _ => ⟨.int .i64 0, ((b4.cell (p := ⟨W1.heap.size, 0, none⟩) (by first | omega | (simp; done) | (simp; omega))).trans ((b3.cell (p := ⟨W1.heap.size, 0, none⟩) (by first | omega | (simp; done) | (simp; omega))).trans ((b2.cell (p := ⟨W1.heap.size, 0, none⟩) (by first | omega | (simp; done) | (simp; omega))).trans (by first | (simp; done) | go_simp))))⟩ | 1, _ => ⟨.int .i64 0, ((b4.cell (p := ⟨W1.heap.size, 1, none⟩) (by first | omega | (simp; done) | (simp; omega))).trans ((b3.cell (p := ⟨W1.heap.size, 1, none⟩) (by first | omega | (simp; done) | (simp; omega))).trans ((b2.cell (p := ⟨W1.heap.size, 1, none⟩) (by first | omega | (simp; done) | (simp; omega))).trans (by first | (simp; done) | go_simp))))⟩ | 2, _ => ⟨.int .i64 0, ((b4.cell (p := ⟨W1.heap.size, 2, none⟩) (by first | omega | (simp; done) | (simp; omega))).trans ((b3.cell (p := ⟨W1.heap.size, 2, none⟩) (by first | omega | (simp; done) | (simp; omega))).trans ((b2.cell (p := ⟨W1.heap.size, 2, none⟩) (by first | omega | (simp; done) | (simp; omega))).trans (by first | (simp; done) | go_simp))))⟩ | n + 3, h => absurd h (by simp)); exact ⟨(((W4.setCell ⟨W1.heap.size, 0, none⟩ (.int .i64 (r0_StepBreach xa0_0 xa0_1 a1_0 a1_1 a1_2 a2 a3))).setCell ⟨W1.heap.size, 1, none⟩ (.int .i64 (r1_StepBreach xa0_0 xa0_1 a1_0 a1_1 a1_2 a2 a3))).setCell ⟨W1.heap.size, 2, none⟩ (.int .i64 (r2_StepBreach xa0_0 xa0_1 a1_0 a1_1 a1_2 a2 a3))), W1.heap.size,  rfl, rfl, rfl, (by first | omega | (simp; done) | (simp; omega)), ho.lt, ho.lt, (D4.trans (ho.below (by first | omega | (simp; done) | (simp; omega)) (by first | omega | (simp; done) | (simp; omega)))), (by have := ho.size; omega), ((ho.other 0 (by first | omega | (simp; done) | (simp; omega)) (by first | omega | (simp; done) | (simp; omega))).trans y4_4_0), ((ho.other 1 (by first | omega | (simp; done) | (simp; omega)) (by first | omega | (simp; done) | (simp; omega))).trans y4_4_1), (by have := ho.size; omega), ((ho.other 0 (by first | omega | (simp; done) | (simp; omega)) (by first | omega | (simp; done) | (simp; omega))).trans y4_5_0), ((ho.other 1 (by first | omega | (simp; done) | (simp; omega)) (by first | omega | (simp; done) | (simp; omega))).trans y4_5_1), ((ho.other 2 (by first | omega | (simp; done) | (simp; omega)) (by first | omega | (simp; done) | (simp; omega))).trans y4_5_2), (by have := ho.size; omega), (ho.at 0 rfl), (ho.at 1 rfl), (ho.at 2 rfl), (q4_a0_0.below (ho.below (by first | omega | (simp; done) | (simp; omega)) (by first | omega | (simp; done) | (simp; omega)))), (q4_a0_1.below (ho.below (by first | omega | (simp; done) | (simp; omega)) (by first | omega | (simp; done) | (simp; omega))))⟩) | (have ho : Out W4 (((W4.setCell ⟨W2.heap.size, 0, none⟩ (.int .i64 (r0_StepBreach xa0_0 xa0_1 a1_0 a1_1 a1_2 a2 a3))).setCell ⟨W2.heap.size, 1, none⟩ (.int .i64 (r1_StepBreach xa0_0 xa0_1 a1_0 a1_1 a1_2 a2 a3))).setCell ⟨W2.heap.size, 2, none⟩ (.int .i64 (r2_StepBreach xa0_0 xa0_1 a1_0 a1_1 a1_2 a2 a3))) (W2.heap.size) [(.int .i64 (r0_StepBreach xa0_0 xa0_1 a1_0 a1_1 a1_2 a2 a3)), (.int .i64 (r1_StepBreach xa0_0 xa0_1 a1_0 a1_1 a1_2 a2 a3)), (.int .i64 (r2_StepBreach xa0_0 xa0_1 a1_0 a1_1 a1_2 a2 a3))] := Out.put W4 (W2.heap.size) [(.int .i64 (r0_StepBreach xa0_0 xa0_1 a1_0 a1_1 a1_2 a2 a3)), (.int .i64 (r1_StepBreach xa0_0 xa0_1 a1_0 a1_1 a1_2 a2 a3)), (.int .i64 (r2_StepBreach xa0_0 xa0_1 a1_0 a1_1 a1_2 a2 a3))] (by first | omega | (simp; done) | (simp; omega)) (fun i hi => match i, hi with | 0, _ => ⟨.int .i64 0, ((b4.cell (p := ⟨W2.heap.size, 0, none⟩) (by first | omega | (simp; done) | (simp; omega))).trans ((b3.cell (p := ⟨W2.heap.size, 0, none⟩) (by first | omega | (simp; done) | (simp; omega))).trans (by first | (simp; done) | go_simp)))⟩ | 1, _ => ⟨.int .i64 0, ((b4.cell (p := ⟨W2.heap.size, 1, none⟩) (by first | omega | (simp; done) | (simp; omega))).trans ((b3.cell (p := ⟨W2.heap.size, 1, none⟩) (by first | omega | (simp; done) | (simp; omega))).trans (by first | (simp; done) | go_simp)))⟩ | 2, _ => ⟨.int .i64 0, ((b4.cell (p := ⟨W2.heap.size, 2, none⟩) (by first | omega | (simp; done) | (simp; omega))).trans ((b3.cell (p := ⟨W2.heap.size, 2, none⟩) (by first | omega | (simp; done) | (simp; omega))).trans (by first | (simp; done) | go_simp)))⟩ | n + 3, h => absurd h (by simp)); exact ⟨(((W4.setCell ⟨W2.heap.size, 0, none⟩ (.int .i64 (r0_StepBreach xa0_0 xa0_1 a1_0 a1_1 a1_2 a2 a3))).setCell ⟨W2.heap.size, 1, none⟩ (.int .i64 (r1_StepBreach xa0_0 xa0_1 a1_0 a1_1 a1_2 a2 a3))).setCell ⟨W2.heap.size, 2, none⟩ (.int .i64 (r2_StepBreach xa0_0 xa0_1 a1_0 a1_1 a1_2 a2 a3))), W2.heap.size,  rfl, rfl, rfl, (by first | omega | (simp; done) | (simp; omega)), ho.lt, ho.lt, (D4.trans (ho.below (by first | omega | (simp; done) | (simp; omega)) (by first | omega | (simp; done) | (simp; omega)))), (by have := ho.size; omega), ((ho.other 0 (by first | omega | (simp; done) | (simp; omega)) (by first | omega | (simp; done) | (simp; omega))).trans y4_4_0), ((ho.other 1 (by first | omega | (simp; done) | (simp; omega)) (by first | omega | (simp; done) | (simp; omega))).trans y4_4_1), (by have := ho.size; omega), ((ho.other 0 (by first | omega | (simp; done) | (simp; omega)) (by first | omega | (simp; done) | (simp; omega))).trans y4_5_0), ((ho.other 1 (by first | omega | (simp; done) | (simp; omega)) (by first | omega | (simp; done) | (simp; omega))).trans y4_5_1), ((ho.other 2 (by first | omega | (simp; done) | (simp; omega)) (by first | omega | (simp; done) | (simp; omega))).trans y4_5_2), (by have := ho.size; omega), (ho.at 0 rfl), (ho.at 1 rfl), (ho.at 2 rfl), (q4_a0_0.below (ho.below (by first | omega | (simp; done) | (simp; omega)) (by first | omega | (simp; done) | (simp; omega)))), (q4_a0_1.below (ho.below (by first | omega | (simp; done) | (simp; omega)) (by first | omega | (simp; done) | (simp; omega))))⟩) | (have ho : Out W4 (((W4.setCell ⟨W3.heap.size, 0, none⟩ (.int .i64 (r0_StepBreach xa0_0 xa0_1 a1_0 a1_1 a1_2 a2 a3))).setCell ⟨W3.heap.size, 1, none⟩ (.int .i64 (r1_StepBreach xa0_0 xa0_1 a1_0 a1_1 a1_2 a2 a3))).setCell ⟨W3.heap.size, 2, none⟩ (.int .i64 (r2_StepBreach xa0_0 xa0_1 a1_0 a1_1 a1_2 a2 a3))) (W3.heap.size) [(.int .i64 (r0_StepBreach xa0_0 xa0_1 a1_0 a1_1 a1_2 a2 a3)), (.int .i64 (r1_StepBreach xa0_0 xa0_1 a1_0 a1_1 a1_2 a2 a3)), (.int .i64 (r2_StepBreach xa0_0 xa0_1 a1_0 a1_1 a1_2 a2 a3))] := Out.put W4 (W3.heap.size) [(.int .i64 (r0_StepBreach xa0_0 xa0_1 a1_0 a1_1 a1_2 a2 a3)), (.int .i64 (r1_StepBreach xa0_0 xa0_1 a1_0 a1_1 a1_2 a2 a3)), (.int .i64 (r2_StepBreach xa0_0 xa0_1 a1_0 a1_1 a1_2 a2 a3))] (by first | omega | (simp; done) | (simp; omega)) (fun i hi => match i, hi with | 0, _ => ⟨.int .i64 0, ((b4.cell (p := ⟨W3.heap.size, 0, none⟩) (by first | omega | (simp; done) | (simp; omega))).trans (by first | (simp; done) | go_simp))⟩ | 1, _ => ⟨.int .i64 0, ((b4.cell (p := ⟨W3.heap.size, 1, none⟩) (by first | omega | (simp; done) | (simp; omega))).trans (by first | (simp; done) | go_simp))⟩ | 2, _ => ⟨.int .i64 0, ((b4.cell (p := ⟨W3.heap.size, 2, none⟩) (by first | omega | (simp; done) | (simp; omega))).trans (by first | (simp; done) | go_simp))⟩ | n + 3, h => absurd h (by simp)); exact ⟨(((W4.setCell ⟨W3.heap.size, 0, none⟩ (.int .i64 (r0_StepBreach xa0_0 xa0_1 a1_0 a1_1 a1_2 a2 a3))).setCell ⟨W3.heap.size, 1, none⟩ (.int .i64 (r1_StepBreach xa0_0 xa0_1 a1_0 a1_1 a1_2 a2 a3))).setCell ⟨W3.heap.size, 2, none⟩ (.int .i64 (r2_StepBreach xa0_0 xa0_1 a1_0 a1_1 a1_2 a2 a3))), W3.heap.size,  rfl, rfl, rfl, (by first | omega | (simp; done) | (simp; omega)), ho.lt, ho.lt, (D4.trans (ho.below (by first | omega | (simp; done) | (simp; omega)) (by first | omega | (simp; done) | (simp; omega)))), (by have := ho.size; omega), ((ho.other 0 (by first | omega | (simp; done) | (simp; omega)) (by first | omega | (simp; done) | (simp; omega))).trans y4_4_0), ((ho.other 1 (by first | omega | (simp; done) | (simp; omega)) (by first | omega | (simp; done) | (simp; omega))).trans y4_4_1), (by have := ho.size; omega), ((ho.other 0 (by first | omega | (simp; done) | (simp; omega)) (by first | omega | (simp; done) | (simp; omega))).trans y4_5_0), ((ho.other 1 (by first | omega | (simp; done) | (simp; omega)) (by first | omega | (simp; done) | (simp; omega))).trans y4_5_1), ((ho.other 2 (by first | omega | (simp; done) | (simp; omega)) (by first | omega | (simp; done) | (simp; omega))).trans y4_5_2), (by have := ho.size; omega), (ho.at 0 rfl), (ho.at 1 rfl), (ho.at 2 rfl), (q4_a0_0.below (ho.below (by first | omega | (simp; done) | (simp; omega)) (by first | omega | (simp; done) | (simp; omega)))), (q4_a0_1.below (ho.below (by first | omega | (simp; done) | (simp; omega)) (by first | omega | (simp; done) | (simp; omega))))⟩) | (have ho : Out W4 (W4.alloc (.cells #[(.int .i64 (r0_StepBreach xa0_0 xa0_1 a1_0 a1_1 a1_2 a2 a3)), (.int .i64 (r1_StepBreach xa0_0 xa0_1 a1_0 a1_1 a1_2 a2 a3)), (.int .i64 (r2_StepBreach xa0_0 xa0_1 a1_0 a1_1 a1_2 a2 a3))] 32)) (W4.heap.size) [(.int .i64 (r0_StepBreach xa0_0 xa0_1 a1_0 a1_1 a1_2 a2 a3)), (.int .i64 (r1_StepBreach xa0_0 xa0_1 a1_0 a1_1 a1_2 a2 a3)), (.int .i64 (r2_StepBreach xa0_0 xa0_1 a1_0 a1_1 a1_2 a2 a3))] := Out.new W4 [(.int .i64 (r0_StepBreach xa0_0 xa0_1 a1_0 a1_1 a1_2 a2 a3)), (.int .i64 (r1_StepBreach xa0_0 xa0_1 a1_0 a1_1 a1_2 a2 a3)), (.int .i64 (r2_StepBreach xa0_0 xa0_1 a1_0 a1_1 a1_2 a2 a3))] 32; exact ⟨(W4.alloc (.cells #[(.int .i64 (r0_StepBreach xa0_0 xa0_1 a1_0 a1_1 a1_2 a2 a3)), (.int .i64 (r1_StepBreach xa0_0 xa0_1 a1_0 a1_1 a1_2 a2 a3)), (.int .i64 (r2_StepBreach xa0_0 xa0_1 a1_0 a1_1 a1_2 a2 a3))] 32)), W4.heap.size,  rfl, rfl, rfl, (by first | omega | (simp; done) | (simp; omega)), ho.lt, ho.lt, (D4.trans (ho.below (by first | omega | (simp; done) | (simp; omega)) (by first | omega | (simp; done) | (simp; omega)))), (by have := ho.size; omega), ((ho.other 0 (by first | omega | (simp; done) | (simp; omega)) (by first | omega | (simp; done) | (simp; omega))).trans y4_4_0), ((ho.other 1 (by first | omega | (simp; done) | (simp; omega)) (by first | omega | (simp; done) | (simp; omega))).trans y4_4_1), (by have := ho.size; omega), ((ho.other 0 (by first | omega | (simp; done) | (simp; omega)) (by first | omega | (simp; done) | (simp; omega))).trans y4_5_0), ((ho.other 1 (by first | omega | (simp; done) | (simp; omega)) (by first | omega | (simp; done) | (simp; omega))).trans y4_5_1), ((ho.other 2 (by first | omega | (simp; done) | (simp; omega)) (by first | omega | (simp; done) | (simp; omega))).trans y4_5_2), (by have := ho.size; omega), (ho.at 0 rfl), (ho.at 1 rfl), (ho.at 2 rfl), (q4_a0_0.below (ho.below (by first | omega | (simp; done) | (simp; omega)) (by first | omega | (simp; done) | (simp; omega)))), (q4_a0_1.below (ho.below (by first | omega | (simp; done) | (simp; omega)) (by first | omega | (simp; done) | (simp; omega))))⟩))
  case rest =>
  obtain ⟨W5, g5,  rfl, rfl, rfl, hg5a, hg5b, n5_10, D5, s5, y5_4_0, y5_4_1, n5_4, y5_5_0, y5_5_1, y5_5_2, n5_5, y5_10_0, y5_10_1, y5_10_2, q5_a0_0, q5_a0_1⟩ := hcut
  skip
  try clear b1
  try clear d1
  try clear D1
  try clear y1_4_0
  try clear y1_4_1
  try clear n1_4
  try clear y1_5_0
  try clear y1_5_1
  try clear y1_5_2
  try clear n1_5
  try clear q1_a0_0
  try clear q1_a0_1
  try clear x5_0
  try clear x5_0'
  try clear x5_1
  try clear x5_1'
  try clear d2
  try clear D2
  try clear y2_4_0
  try clear y2_4_1
  try clear n2_4
  try clear y2_5_0
  try clear y2_5_1
  try clear y2_5_2
  try clear n2_5
  try clear q2_a0_0
  try clear q2_a0_1
  try clear q2_A2_0
  try clear q2_A2_1
  try clear v2_0
  try clear x2_0
  try clear x2_0'
  try clear x2_1
  try clear x2_1'
  try clear d3
  try clear D3
  try clear y3_4_0
  try clear y3_4_1
  try clear n3_4
  try clear y3_5_0
  try clear y3_5_1
  try clear y3_5_2
  try clear n3_5
  try clear q3_a0_0
  try clear q3_a0_1
  try clear q3_A2_0
  try clear q3_A2_1
  try clear v3_0
  try clear v3_1
  try clear x3_0
  try clear x3_0'
  try clear x3_1
  try clear x3_1'
  try clear d4
  try clear D4
  try clear y4_4_0
  try clear y4_4_1
  try clear n4_4
  try clear y4_5_0
  try clear y4_5_1
  try clear y4_5_2
  try clear n4_5
  try clear q4_a0_0
  try clear q4_a0_1
  try clear v4_0
  try clear v4_1
  try clear v4_2
  try clear x4_0
  try clear x4_0'
  try clear x4_1
  try clear x4_1'
  try clear b3
  try clear b4
  try clear b2
  try clear p2_0
  try clear p2_1
  go_wp2_with fail
  refine (toCurve_x _ _ _ xa0_0 _ _ _ xa0_1 _ ha0_0 (Rd.mono (q5_a0_0.below (by repeat (first | assumption | exact Below.refl _ _ | (refine Below.setCell ?_ (by first | omega | (simp; done) | (simp; omega)) _) | apply below_drewN | apply Below.drew | (refine Below.alloc ?_ (by first | omega | (simp; done) | (simp; omega)) _)))) (by first | omega | (simp; done) | (simp; omega))) ha0_1 (Rd.mono (q5_a0_1.below (by repeat (first | assumption | exact Below.refl _ _ | (refine Below.setCell ?_ (by first | omega | (simp; done) | (simp; omega)) _) | apply below_drewN | apply Below.drew | (refine Below.alloc ?_ (by first | omega | (simp; done) | (simp; omega)) _)))) (by first | omega | (simp; done) | (simp; omega)))).mono ?_
  rintro e6 W6 ⟨A6_0, A6_1, c6_0, c6_1, rfl, b6, p6_0, p6_1, dis6_0_1⟩
  obtain ⟨k6, _⟩ := bcell b6
  have s6 : W5.heap.size + 0 ≤ W6.heap.size := by have := b6.size; (try simp at this); omega
  have d6 : Below W5.heap.size W5 W6 := (by repeat (first | assumption | exact Below.refl _ _ | (refine Below.trans ?_ (b6.mono (by first | omega | (simp; done) | (simp; omega)))) | (refine Below.setCell ?_ (by first | omega | (simp; done) | (simp; omega)) _) | apply below_drewN | apply Below.drew | (refine Below.alloc ?_ (by first | omega | (simp; done) | (simp; omega)) _)))
  have D6 : Below w.heap.size w W6 := Below.trans D5 (d6.mono (by omega))
  have y6_4_0 : W6.cell? ⟨w.heap.size, 0, none⟩ = some (.slice a0_0 la0_0 ca0_0) := (d6.cell (p := ⟨w.heap.size, 0, none⟩) (show w.heap.size < W5.heap.size by omega)).trans y5_4_0
  have y6_4_1 : W6.cell? ⟨w.heap.size, 1, none⟩ = some (.slice a0_1 la0_1 ca0_1) := (d6.cell (p := ⟨w.heap.size, 1, none⟩) (show w.heap.size < W5.heap.size by omega)).trans y5_4_1
  have n6_4 : w.heap.size < W6.heap.size := by omega
  have y6_5_0 : W6.cell? ⟨w.heap.size + 1, 0, none⟩ = some (.int .i64 a1_0) := (d6.cell (p := ⟨w.heap.size + 1, 0, none⟩) (show w.heap.size + 1 < W5.heap.size by omega)).trans y5_5_0
  have y6_5_1 : W6.cell? ⟨w.heap.size + 1, 1, none⟩ = some (.int .i64 a1_1) := (d6.cell (p := ⟨w.heap.size + 1, 1, none⟩) (show w.heap.size + 1 < W5.heap.size by omega)).trans y5_5_1
  have y6_5_2 : W6.cell? ⟨w.heap.size + 1, 2, none⟩ = some (.int .i64 a1_2) := (d6.cell (p := ⟨w.heap.size + 1, 2, none⟩) (show w.heap.size + 1 < W5.heap.size by omega)).trans y5_5_2
  have n6_5 : w.heap.size + 1 < W6.heap.size := by omega
  have y6_10_0 : W6.cell? ⟨g5, 0, none⟩ = some (.int .i64 (r0_StepBreach xa0_0 xa0_1 a1_0 a1_1 a1_2 a2 a3)) := (d6.cell (p := ⟨g5, 0, none⟩) (show g5 < W5.heap.size by omega)).trans y5_10_0
  have y6_10_1 : W6.cell? ⟨g5, 1, none⟩ = some (.int .i64 (r1_StepBreach xa0_0 xa0_1 a1_0 a1_1 a1_2 a2 a3)) := (d6.cell (p := ⟨g5, 1, none⟩) (show g5 < W5.heap.size by omega)).trans y5_10_1
  have y6_10_2 : W6.cell? ⟨g5, 2, none⟩ = some (.int .i64 (r2_StepBreach xa0_0 xa0_1 a1_0 a1_1 a1_2 a2 a3)) := (d6.cell (p := ⟨g5, 2, none⟩) (show g5 < W5.heap.size by omega)).trans y5_10_2
  have n6_10 : g5 < W6.heap.size := by omega
  have q6_a0_0 : Rd W6 w.heap.size a0_0 la0_0 xa0_0 := q5_a0_0.below (d6.mono (by omega))
  have q6_a0_1 : Rd W6 w.heap.size a0_1 la0_1 xa0_1 := q5_a0_1.below (d6.mono (by omega))
  clear k6 y5_4_0 y5_4_1 n5_4 y5_5_0 y5_5_1 y5_5_2 n5_5 y5_10_0 y5_10_1 y5_10_2 n5_10
  have q6_A6_0 : Wr W6 (W5.heap.size + 0) A6_0 la0_0 xa0_0 := p6_0.lower (by first | omega | (simp; done) | (simp; omega))
  have t6_0 := q6_A6_0.lt
  have q6_A6_1 : Wr W6 (W5.heap.size + 0) A6_1 la0_1 xa0_1 := p6_1.lower (by first | omega | (simp; done) | (simp; omega))
  have t6_1 := q6_A6_1.lt
  have x7_0 : ¬ W6.heap.size = W6.heap.size + 1 := by omega
  have x7_0' : ¬ W6.heap.size + 1 = W6.heap.size := by omega
  have x7_1 : ¬ w.heap.size + 1 = W6.heap.size + 1 := by omega
  have x7_1' : ¬ W6.heap.size + 1 = w.heap.size + 1 := by omega
  go_upto_region 7 with fail
  go_cut [13, 14] (fun s13 s14 W9' => ∃ (W9 : World) (g7 : Nat) , W9 = W9' ∧ s13 = .pointer (some ⟨g7, 0, none⟩) ∧ s14 = .int .i64 (r3_StepBreach xa0_0 xa0_1 a1_0 a1_1 a1_2 a2 a3) ∧ W6.heap.size ≤ g7 ∧ g7 < W9.heap.size ∧ g7 < W9.heap.size ∧ Below w.heap.size w W9 ∧ W6.heap.size + 1 ≤ W9.heap.size ∧ W9.cell? ⟨w.heap.size, 0, none⟩ = some (.slice a0_0 la0_0 ca0_0) ∧ W9.cell? ⟨w.heap.size, 1, none⟩ = some (.slice a0_1 la0_1 ca0_1) ∧ w.heap.size < W9.heap.size ∧ W9.cell? ⟨g5, 0, none⟩ = some (.int .i64 (r0_StepBreach xa0_0 xa0_1 a1_0 a1_1 a1_2 a2 a3)) ∧ W9.cell? ⟨g5, 1, none⟩ = some (.int .i64 (r1_StepBreach xa0_0 xa0_1 a1_0 a1_1 a1_2 a2 a3)) ∧ W9.cell? ⟨g5, 2, none⟩ = some (.int .i64 (r2_StepBreach xa0_0 xa0_1 a1_0 a1_1 a1_2 a2 a3)) ∧ g5 < W9.heap.size ∧ W9.cell? ⟨W6.heap.size, 0, none⟩ = some (.slice A6_0 la0_0 c6_0) ∧ W9.cell? ⟨W6.heap.size, 1, none⟩ = some (.slice A6_1 la0_1 c6_1) ∧ W6.heap.size < W9.heap.size ∧ W9.cell? ⟨g7, 0, none⟩ = some (.int .i64 (r0_StepBreach xa0_0 xa0_1 a1_0 a1_1 a1_2 a2 a3)) ∧ W9.cell? ⟨g7, 1, none⟩ = some (.int .i64 (r1_StepBreach xa0_0 xa0_1 a1_0 a1_1 a1_2 a2 a3)) ∧ W9.cell? ⟨g7, 2, none⟩ = some (.int .i64 (r2_StepBreach xa0_0 xa0_1 a1_0 a1_1 a1_2 a2 a3)) ∧ Rd W9 w.heap.size a0_0 la0_0 xa0_0 ∧ Rd W9 w.heap.size a0_1 la0_1 xa0_1 ∧ Wr W9 (W5.heap.size + 0) A6_0 la0_0 xa0_0 ∧ Wr W9 (W5.heap.size + 0) A6_1 la0_1 xa0_1)
  case first =>
    go_region_held3 (fun w' => w'.cell? ⟨W6.heap.size, 0, none⟩ = some (.slice A6_0 la0_0 c6_0) ∧ w'.cell? ⟨W6.heap.size, 1, none⟩ = some (.slice A6_1 la0_1 c6_1) ∧ w'.cell? ⟨w.heap.size + 1, 0, none⟩ = some (.int .i64 a1_0) ∧ w'.cell? ⟨w.heap.size + 1, 1, none⟩ = some (.int .i64 a1_1) ∧ w'.cell? ⟨w.heap.size + 1, 2, none⟩ = some (.int .i64 a1_2)) (first | ((refine ⟨?_, ?_, ?_, ?_, ?_⟩ <;> (repeat (first | (with_reducible assumption) | (with_reducible refine keepA ?_) | (with_reducible refine keepD ?_) | ((with_reducible refine keep1 ?_ ?_); rotate_left 1; omega) | (simp; done)))); done) | go_keep) (first | (go_at_call 16; refine (toBreach_x _ _ _ _ ).mono ?_; rintro e7 W7 ⟨rfl, b7⟩; obtain ⟨k7, f7⟩ := bcell b7; (have s7 : W6.heap.size + 1 ≤ W7.heap.size := by have := b7.size; (try simp at this); omega); (have d7 : Below W6.heap.size W6 W7 := (by repeat (first | assumption | exact Below.refl _ _ | (refine Below.trans ?_ (b7.mono (by first | omega | (simp; done) | (simp; omega)))) | (refine Below.setCell ?_ (by first | omega | (simp; done) | (simp; omega)) _) | apply below_drewN | apply Below.drew | (refine Below.alloc ?_ (by first | omega | (simp; done) | (simp; omega)) _)))); (have D7 : Below w.heap.size w W7 := Below.trans D6 (d7.mono (by omega))); (have y7_4_0 : W7.cell? ⟨w.heap.size, 0, none⟩ = some (.slice a0_0 la0_0 ca0_0) := (d7.cell (p := ⟨w.heap.size, 0, none⟩) (show w.heap.size < W6.heap.size by omega)).trans y6_4_0); (have y7_4_1 : W7.cell? ⟨w.heap.size, 1, none⟩ = some (.slice a0_1 la0_1 ca0_1) := (d7.cell (p := ⟨w.heap.size, 1, none⟩) (show w.heap.size < W6.heap.size by omega)).trans y6_4_1); (have n7_4 : w.heap.size < W7.heap.size := by omega); (have y7_5_0 : W7.cell? ⟨w.heap.size + 1, 0, none⟩ = some (.int .i64 a1_0) := (d7.cell (p := ⟨w.heap.size + 1, 0, none⟩) (show w.heap.size + 1 < W6.heap.size by omega)).trans y6_5_0); (have y7_5_1 : W7.cell? ⟨w.heap.size + 1, 1, none⟩ = some (.int .i64 a1_1) := (d7.cell (p := ⟨w.heap.size + 1, 1, none⟩) (show w.heap.size + 1 < W6.heap.size by omega)).trans y6_5_1); (have y7_5_2 : W7.cell? ⟨w.heap.size + 1, 2, none⟩ = some (.int .i64 a1_2) := (d7.cell (p := ⟨w.heap.size + 1, 2, none⟩) (show w.heap.size + 1 < W6.heap.size by omega)).trans y6_5_2); (have n7_5 : w.heap.size + 1 < W7.heap.size := by omega); (have y7_10_0 : W7.cell? ⟨g5, 0, none⟩ = some (.int .i64 (r0_StepBreach xa0_0 xa0_1 a1_0 a1_1 a1_2 a2 a3)) := (d7.cell (p := ⟨g5, 0, none⟩) (show g5 < W6.heap.size by omega)).trans y6_10_0); (have y7_10_1 : W7.cell? ⟨g5, 1, none⟩ = some (.int .i64 (r1_StepBreach xa0_0 xa0_1 a1_0 a1_1 a1_2 a2 a3)) := (d7.cell (p := ⟨g5, 1, none⟩) (show g5 < W6.heap.size by omega)).trans y6_10_1); (have y7_10_2 : W7.cell? ⟨g5, 2, none⟩ = some (.int .i64 (r2_StepBreach xa0_0 xa0_1 a1_0 a1_1 a1_2 a2 a3)) := (d7.cell (p := ⟨g5, 2, none⟩) (show g5 < W6.heap.size by omega)).trans y6_10_2); (have n7_10 : g5 < W7.heap.size := by omega); (have y7_12_0 : W7.cell? ⟨W6.heap.size, 0, none⟩ = some (.slice A6_0 la0_0 c6_0) := by rw [k7 _ _ (by first | omega | (simp; done) | (simp; omega))]; first | (simp; done) | go_simp); (have y7_12_1 : W7.cell? ⟨W6.heap.size, 1, none⟩ = some (.slice A6_1 la0_1 c6_1) := by rw [k7 _ _ (by first | omega | (simp; done) | (simp; omega))]; first | (simp; done) | go_simp); (have n7_12 : W6.heap.size < W7.heap.size := by omega); (have q7_a0_0 : Rd W7 w.heap.size a0_0 la0_0 xa0_0 := q6_a0_0.below (d7.mono (by omega))); (have q7_a0_1 : Rd W7 w.heap.size a0_1 la0_1 xa0_1 := q6_a0_1.below (d7.mono (by omega))); (have q7_A6_0 : Wr W7 (W5.heap.size + 0) A6_0 la0_0 xa0_0 := q6_A6_0.below d7); (have q7_A6_1 : Wr W7 (W5.heap.size + 0) A6_1 la0_1 xa0_1 := q6_A6_1.below d7); clear y6_4_0 y6_4_1 n6_4 y6_5_0 y6_5_1 y6_5_2 n6_5 y6_10_0 y6_10_1 y6_10_2 n6_10; (try have v7_0 : W6.heap.size < W7.heap.size := (by have := b7.size; (try simp at this); omega)); (try have v7_0_1 : W6.heap.size + 1 < W7.heap.size := (by have := b7.size; (try simp at this); omega)); (have x7_0 : ¬ W6.heap.size = W7.heap.size := (by omega)); (have x7_0' : ¬ W7.heap.size = W6.heap.size := (by omega)); (have x7_1 : ¬ w.heap.size + 1 = W7.heap.size := (by omega)); (have x7_1' : ¬ W7.heap.size = w.heap.size + 1 := (by omega))) | (go_at_call 22; refine (implC_StepBreach _ _ _ xa0_0 _ _ _ xa0_1 _ _ _ _ _ _ ha0_0 (Rd.mono ((q7_A6_0.rd).below (by repeat (first | assumption | exact Below.refl _ _ | (refine Below.setCell ?_ (by first | omega | (simp; done) | (simp; omega)) _) | apply below_drewN | apply Below.drew | (refine Below.alloc ?_ (by first | omega | (simp; done) | (simp; omega)) _)))) (by first | omega | (simp; done) | (simp; omega))) fa0_0 ha0_1 (Rd.mono ((q7_A6_1.rd).below (by repeat (first | assumption | exact Below.refl _ _ | (refine Below.setCell ?_ (by first | omega | (simp; done) | (simp; omega)) _) | apply below_drewN | apply Below.drew | (refine Below.alloc ?_ (by first | omega | (simp; done) | (simp; omega)) _)))) (by first | omega | (simp; done) | (simp; omega))) fa0_1 ha1_0 ha1_1 ha1_2 ha2 ha3 _ _ ((hsent.below (by repeat (first | assumption | exact Below.refl _ _ | (refine Below.trans ?_ (D7.mono (by first | omega | (simp; done) | (simp; omega)))) | (refine Below.setCell ?_ (by first | omega | (simp; done) | (simp; omega)) _) | apply below_drewN | apply Below.drew | (refine Below.alloc ?_ (by first | omega | (simp; done) | (simp; omega)) _)))).mono (by first | omega | (simp; done) | (simp; omega)))).mono ?_; rintro e8 W8 ⟨rfl, b8⟩; obtain ⟨k8, f8⟩ := bcell b8; (have s8 : W7.heap.size + 0 ≤ W8.heap.size := by have := b8.size; (try simp at this); omega); (have d8 : Below W7.heap.size W7 W8 := (by repeat (first | assumption | exact Below.refl _ _ | (refine Below.trans ?_ (b8.mono (by first | omega | (simp; done) | (simp; omega)))) | (refine Below.setCell ?_ (by first | omega | (simp; done) | (simp; omega)) _) | apply below_drewN | apply Below.drew | (refine Below.alloc ?_ (by first | omega | (simp; done) | (simp; omega)) _)))); (have D8 : Below w.heap.size w W8 := Below.trans D7 (d8.mono (by omega))); (have y8_4_0 : W8.cell? ⟨w.heap.size, 0, none⟩ = some (.slice a0_0 la0_0 ca0_0) := (d8.cell (p := ⟨w.heap.size, 0, none⟩) (show w.heap.size < W7.heap.size by omega)).trans y7_4_0); (have y8_4_1 : W8.cell? ⟨w.heap.size, 1, none⟩ = some (.slice a0_1 la0_1 ca0_1) := (d8.cell (p := ⟨w.heap.size, 1, none⟩) (show w.heap.size < W7.heap.size by omega)).trans y7_4_1); (have n8_4 : w.heap.size < W8.heap.size := by omega); (have y8_5_0 : W8.cell? ⟨w.heap.size + 1, 0, none⟩ = some (.int .i64 a1_0) := (d8.cell (p := ⟨w.heap.size + 1, 0, none⟩) (show w.heap.size + 1 < W7.heap.size by omega)).trans y7_5_0); (have y8_5_1 : W8.cell? ⟨w.heap.size + 1, 1, none⟩ = some (.int .i64 a1_1) := (d8.cell (p := ⟨w.heap.size + 1, 1, none⟩) (show w.heap.size + 1 < W7.heap.size by omega)).trans y7_5_1); (have y8_5_2 : W8.cell? ⟨w.heap.size + 1, 2, none⟩ = some (.int .i64 a1_2) := (d8.cell (p := ⟨w.heap.size + 1, 2, none⟩) (show w.heap.size + 1 < W7.heap.size by omega)).trans y7_5_2); (have n8_5 : w.heap.size + 1 < W8.heap.size := by omega); (have y8_10_0 : W8.cell? ⟨g5, 0, none⟩ = some (.int .i64 (r0_StepBreach xa0_0 xa0_1 a1_0 a1_1 a1_2 a2 a3)) := (d8.cell (p := ⟨g5, 0, none⟩) (show g5 < W7.heap.size by omega)).trans y7_10_0); (have y8_10_1 : W8.cell? ⟨g5, 1, none⟩ = some (.int .i64 (r1_StepBreach xa0_0 xa0_1 a1_0 a1_1 a1_2 a2 a3)) := (d8.cell (p := ⟨g5, 1, none⟩) (show g5 < W7.heap.size by omega)).trans y7_10_1); (have y8_10_2 : W8.cell? ⟨g5, 2, none⟩ = some (.int .i64 (r2_StepBreach xa0_0 xa0_1 a1_0 a1_1 a1_2 a2 a3)) := (d8.cell (p := ⟨g5, 2, none⟩) (show g5 < W7.heap.size by omega)).trans y7_10_2); (have n8_10 : g5 < W8.heap.size := by omega); (have y8_12_0 : W8.cell? ⟨W6.heap.size, 0, none⟩ = some (.slice A6_0 la0_0 c6_0) := (d8.cell (p := ⟨W6.heap.size, 0, none⟩) (show W6.heap.size < W7.heap.size by omega)).trans y7_12_0); (have y8_12_1 : W8.cell? ⟨W6.heap.size, 1, none⟩ = some (.slice A6_1 la0_1 c6_1) := (d8.cell (p := ⟨W6.heap.size, 1, none⟩) (show W6.heap.size < W7.heap.size by omega)).trans y7_12_1); (have n8_12 : W6.heap.size < W8.heap.size := by omega); (have q8_a0_0 : Rd W8 w.heap.size a0_0 la0_0 xa0_0 := q7_a0_0.below (d8.mono (by omega))); (have q8_a0_1 : Rd W8 w.heap.size a0_1 la0_1 xa0_1 := q7_a0_1.below (d8.mono (by omega))); (have q8_A6_0 : Wr W8 (W5.heap.size + 0) A6_0 la0_0 xa0_0 := q7_A6_0.below d8); (have q8_A6_1 : Wr W8 (W5.heap.size + 0) A6_1 la0_1 xa0_1 := q7_A6_1.below d8); clear y7_4_0 y7_4_1 n7_4 y7_5_0 y7_5_1 y7_5_2 n7_5 y7_10_0 y7_10_1 y7_10_2 n7_10 y7_12_0 y7_12_1 n7_12; (try have v8_0 : W6.heap.size < W8.heap.size := (by have := b8.size; (try simp at this); omega)); (try have v8_1 : W7.heap.size < W8.heap.size := (by have := b8.size; (try simp at this); omega)); (try have v8_0_1 : W6.heap.size + 1 < W8.heap.size := (by have := b8.size; (try simp at this); omega)); (have x8_0 : ¬ W6.heap.size = W8.heap.size := (by omega)); (have x8_0' : ¬ W8.heap.size = W6.heap.size := (by omega)); (have x8_1 : ¬ w.heap.size + 1 = W8.heap.size := (by omega)); (have x8_1' : ¬ W8.heap.size = w.heap.size + 1 := (by omega))))
    all_goals (go_wp2_with fail; go_meet; first | (have ho : Out W8 (((W8.setCell ⟨W6.heap.size + 1, 0, none⟩ (.int .i64 (r0_StepBreach xa0_0 xa0_1 a1_0 a1_1 a1_2 a2 a3))).setCell ⟨W6.heap.size + 1, 1, none⟩ (.int .i64 (r1_StepBreach xa0_0 xa0_1 a1_0 a1_1 a1_2 a2 a3))).setCell ⟨W6.heap.size + 1, 2, none⟩ (.int .i64 (r2_StepBreach xa0_0 xa0_1 a1_0 a1_1 a1_2 a2 a3))) (W6.heap.size + 1) [(.int .i64 (r0_StepBreach xa0_0 xa0_1 a1_0 a1_1 a1_2 a2 a3)), (.int .i64 (r1_StepBreach xa0_0 xa0_1 a1_0 a1_1 a1_2 a2 a3)), (.int .i64 (r2_StepBreach xa0_0 xa0_1 a1_0 a1_1 a1_2 a2 a3))] := Out.put W8 (W6.heap.size + 1) [(.int .i64 (r0_StepBreach xa0_0 xa0_1 a1_0 a1_1 a1_2 a2 a3)), (.int .i64 (r1_StepBreach xa0_0 xa0_1 a1_0 a1_1 a1_2 a2 a3)), (.int .i64 (r2_StepBreach xa0_0 xa0_1 a1_0 a1_1 a1_2 a2 a3))] (by first | omega | (simp; done) | (simp; omega)) (fun i hi => match i, hi with | 0, _ => ⟨.int .i64 0, ((b8.cell (p := ⟨W6.heap.size + 1, 0, none⟩) (by first | omega | (simp; done) | (simp; omega))).trans ((b7.cell (p := ⟨W6.heap.size + 1, 0, none⟩) (by first | omega | (simp; done) | (simp; omega))).trans (by first | (simp; done) | go_simp)))⟩ | 1, _ => ⟨.int .i64 0, ((b8.cell (p := ⟨W6.heap.size + 1, 1, none⟩) (by first | omega | (simp; done) | (simp; omega))).trans ((b7.cell (p := ⟨W6.heap.size + 1, 1, none⟩) (by first | omega | (simp; done) | (simp; omega))).trans (by first | (simp; done) | go_simp)))⟩ | 2, _ => ⟨.int .i64 0, ((b8.cell (p := ⟨W6.heap.size + 1, 2, none⟩) (by first | omega | (simp; done) | (simp; omega))).trans ((b7.cell (p := ⟨W6.heap.size + 1, 2, none⟩) (by first | omega | (simp; done) | (simp; omega))).trans (by first | (simp; done) | go_simp)))⟩ | n + 3, h => absurd h (by simp)); exact ⟨(((W8.setCell ⟨W6.heap.size + 1, 0, none⟩ (.int .i64 (r0_StepBreach xa0_0 xa0_1 a1_0 a1_1 a1_2 a2 a3))).setCell ⟨W6.heap.size + 1, 1, none⟩ (.int .i64 (r1_StepBreach xa0_0 xa0_1 a1_0 a1_1 a1_2 a2 a3))).setCell ⟨W6.heap.size + 1, 2, none⟩ (.int .i64 (r2_StepBreach xa0_0 xa0_1 a1_0 a1_1 a1_2 a2 a3))), W6.heap.size + 1,  rfl, rfl, rfl, (by first | omega | (simp; done) | (simp; omega)), ho.lt, ho.lt, (D8.trans (ho.below (by first | omega | (simp; done) | (simp; omega)) (by first | omega | (simp; done) | (simp; omega)))), (by have := ho.size; omega), ((ho.other 0 (by first | omega | (simp; done) | (simp; omega)) (by first | omega | (simp; done) | (simp; omega))).trans y8_4_0), ((ho.other 1 (by first | omega | (simp; done) | (simp; omega)) (by first | omega | (simp; done) | (simp; omega))).trans y8_4_1), (by have := ho.size; omega), ((ho.other 0 (by first | omega | (simp; done) | (simp; omega)) (by first | omega | (simp; done) | (simp; omega))).trans y8_10_0), ((ho.other 1 (by first | omega | (simp; done) | (simp; omega)) (by first | omega | (simp; done) | (simp; omega))).trans y8_10_1), ((ho.other 2 (by first | omega | (simp; done) | (simp; omega)) (by first | omega | (simp; done) | (simp; omega))).trans y8_10_2), (by have := ho.size; omega), ((ho.other 0 (by first | omega | (simp; done) | (simp; omega)) (by first | omega | (simp; done) | (simp; omega))).trans y8_12_0), ((ho.other 1 (by first | omega | (simp; done) | (simp; omega)) (by first | omega | (simp; done) | (simp; omega))).trans y8_12_1), (by have := ho.size; omega), (ho.at 0 rfl), (ho.at 1 rfl), (ho.at 2 rfl), (q8_a0_0.below (ho.below (by first | omega | (simp; done) | (simp; omega)) (by first | omega | (simp; done) | (simp; omega)))), (q8_a0_1.below (ho.below (by first | omega | (simp; done) | (simp; omega)) (by first | omega | (simp; done) | (simp; omega)))), (q8_A6_0.chg t6_0 ho.chg (by first | omega | (simp; done) | (simp; omega))), (q8_A6_1.chg t6_1 ho.chg (by first | omega | (simp; done) | (simp; omega)))⟩) | (have ho : Out W8 (((W8.setCell ⟨W7.heap.size, 0, none⟩ (.int .i64 (r0_StepBreach xa0_0 xa0_1 a1_0 a1_1 a1_2 a2 a3))).setCell ⟨W7.heap.size, 1, none⟩ (.int .i64 (r1_StepBreach xa0_0 xa0_1 a1_0 a1_1 a1_2 a2 a3))).setCell ⟨W7.heap.size, 2, none⟩ (.int .i64 (r2_StepBreach xa0_0 xa0_1 a1_0 a1_1 a1_2 a2 a3))) (W7.heap.size) [(.int .i64 (r0_StepBreach xa0_0 xa0_1 a1_0 a1_1 a1_2 a2 a3)), (.int .i64 (r1_StepBreach xa0_0 xa0_1 a1_0 a1_1 a1_2 a2 a3)), (.int .i64 (r2_StepBreach xa0_0 xa0_1 a1_0 a1_1 a1_2 a2 a3))] := Out.put W8 (W7.heap.size) [(.int .i64 (r0_StepBreach xa0_0 xa0_1 a1_0 a1_1 a1_2 a2 a3)), (.int .i64 (r1_StepBreach xa0_0 xa0_1 a1_0 a1_1 a1_2 a2 a3)), (.int .i64 (r2_StepBreach xa0_0 xa0_1 a1_0 a1_1 a1_2 a2 a3))] (by first | omega | (simp; done) | (simp; omega)) (fun i hi => match i, hi with | 0, _ => ⟨.int .i64 0, ((b8.cell (p := ⟨W7.heap.size, 0, none⟩) (by first | omega | (simp; done) | (simp; omega))).trans (by first | (simp; done) | go_simp))⟩ | 1, _ => ⟨.int .i64 0, ((b8.cell (p := ⟨W7.heap.size, 1, none⟩) (by first | omega | (simp; done) | (simp; omega))).trans (by first | (simp; done) | go_simp))⟩ | 2, _ => ⟨.int .i64 0, ((b8.cell (p := ⟨W7.heap.size, 2, none⟩) (by first | omega | (simp; done) | (simp; omega))).trans (by first | (simp; done) | go_simp))⟩ | n + 3, h => absurd h (by simp)); exact ⟨(((W8.setCell ⟨W7.heap.size, 0, none⟩ (.int .i64 (r0_StepBreach xa0_0 xa0_1 a1_0 a1_1 a1_2 a2 a3))).setCell ⟨W7.heap.size, 1, none⟩ (.int .i64 (r1_StepBreach xa0_0 xa0_1 a1_0 a1_1 a1_2 a2 a3))).setCell ⟨W7.heap.size, 2, none⟩ (.int .i64 (r2_StepBreach xa0_0 xa0_1 a1_0 a1_1 a1_2 a2 a3))), W7.heap.size,  rfl, rfl, rfl, (by first | omega | (simp; done) | (simp; omega)), ho.lt, ho.lt, (D8.trans (ho.below (by first | omega | (simp; done) | (simp; omega)) (by first | omega | (simp; done) | (simp; omega)))), (by have := ho.size; omega), ((ho.other 0 (by first | omega | (simp; done) | (simp; omega)) (by first | omega | (simp; done) | (simp; omega))).trans y8_4_0), ((ho.other 1 (by first | omega | (simp; done) | (simp; omega)) (by first | omega | (simp; done) | (simp; omega))).trans y8_4_1), (by have := ho.size; omega), ((ho.other 0 (by first | omega | (simp; done) | (simp; omega)) (by first | omega | (simp; done) | (simp; omega))).trans y8_10_0), ((ho.other 1 (by first | omega | (simp; done) | (simp; omega)) (by first | omega | (simp; done) | (simp; omega))).trans y8_10_1), ((ho.other 2 (by first | omega | (simp; done) | (simp; omega)) (by first | omega | (simp; done) | (simp; omega))).trans y8_10_2), (by have := ho.size; omega), ((ho.other 0 (by first | omega | (simp; done) | (simp; omega)) (by first | omega | (simp; done) | (simp; omega))).trans y8_12_0), ((ho.other 1 (by first | omega | (simp; done) | (simp; omega)) (by first | omega | (simp; done) | (simp; omega))).trans y8_12_1), (by have := ho.size; omega), (ho.at 0 rfl), (ho.at 1 rfl), (ho.at 2 rfl), (q8_a0_0.below (ho.below (by first | omega | (simp; done) | (simp; omega)) (by first | omega | (simp; done) | (simp; omega)))), (q8_a0_1.below (ho.below (by first | omega | (simp; done) | (simp; omega)) (by first | omega | (simp; done) | (simp; omega)))), (q8_A6_0.chg t6_0 ho.chg (by first | omega | (simp; done) | (simp; omega))), (q8_A6_1.chg t6_1 ho.chg (by first | omega | (simp; done) | (simp; omega)))⟩) | (have ho : Out W8 (W8.alloc (.cells #[(.int .i64 (r0_StepBreach xa0_0 xa0_1 a1_0 a1_1 a1_2 a2 a3)), (.int .i64 (r1_StepBreach xa0_0 xa0_1 a1_0 a1_1 a1_2 a2 a3)), (.int .i64 (r2_StepBreach xa0_0 xa0_1 a1_0 a1_1 a1_2 a2 a3))] 32)) (W8.heap.size) [(.int .i64 (r0_StepBreach xa0_0 xa0_1 a1_0 a1_1 a1_2 a2 a3)), (.int .i64 (r1_StepBreach xa0_0 xa0_1 a1_0 a1_1 a1_2 a2 a3)), (.int .i64 (r2_StepBreach xa0_0 xa0_1 a1_0 a1_1 a1_2 a2 a3))] := Out.new W8 [(.int .i64 (r0_StepBreach xa0_0 xa0_1 a1_0 a1_1 a1_2 a2 a3)), (.int .i64 (r1_StepBreach xa0_0 xa0_1 a1_0 a1_1 a1_2 a2 a3)), (.int .i64 (r2_StepBreach xa0_0 xa0_1 a1_0 a1_1 a1_2 a2 a3))] 32; exact ⟨(W8.alloc (.cells #[(.int .i64 (r0_StepBreach xa0_0 xa0_1 a1_0 a1_1 a1_2 a2 a3)), (.int .i64 (r1_StepBreach xa0_0 xa0_1 a1_0 a1_1 a1_2 a2 a3)), (.int .i64 (r2_StepBreach xa0_0 xa0_1 a1_0 a1_1 a1_2 a2 a3))] 32)), W8.heap.size,  rfl, rfl, rfl, (by first | omega | (simp; done) | (simp; omega)), ho.lt, ho.lt, (D8.trans (ho.below (by first | omega | (simp; done) | (simp; omega)) (by first | omega | (simp; done) | (simp; omega)))), (by have := ho.size; omega), ((ho.other 0 (by first | omega | (simp; done) | (simp; omega)) (by first | omega | (simp; done) | (simp; omega))).trans y8_4_0), ((ho.other 1 (by first | omega | (simp; done) | (simp; omega)) (by first | omega | (simp; done) | (simp; omega))).trans y8_4_1), (by have := ho.size; omega), ((ho.other 0 (by first | omega | (simp; done) | (simp; omega)) (by first | omega | (simp; done) | (simp; omega))).trans y8_10_0), ((ho.other 1 (by first | omega | (simp; done) | (simp; omega)) (by first | omega | (simp; done) | (simp; omega))).trans y8_10_1), ((ho.other 2 (by first | omega | (simp; done) | (simp; omega)) (by first | omega | (simp; done) | (simp; omega))).trans y8_10_2), (by have := ho.size; omega), ((ho.other 0 (by first | omega | (simp; done) | (simp; omega)) (by first | omega | (simp; done) | (simp; omega))).trans y8_12_0), ((ho.other 1 (by first | omega | (simp; done) | (simp; omega)) (by first | omega | (simp; done) | (simp; omega))).trans y8_12_1), (by have := ho.size; omega), (ho.at 0 rfl), (ho.at 1 rfl), (ho.at 2 rfl), (q8_a0_0.below (ho.below (by first | omega | (simp; done) | (simp; omega)) (by first | omega | (simp; done) | (simp; omega)))), (q8_a0_1.below (ho.below (by first | omega | (simp; done) | (simp; omega)) (by first | omega | (simp; done) | (simp; omega)))), (q8_A6_0.chg t6_0 ho.chg (by first | omega | (simp; done) | (simp; omega))), (q8_A6_1.chg t6_1 ho.chg (by first | omega | (simp; done) | (simp; omega)))⟩))
  case rest =>
  obtain ⟨W9, g7,  rfl, rfl, rfl, hg7a, hg7b, n9_13, D9, s9, y9_4_0, y9_4_1, n9_4, y9_10_0, y9_10_1, y9_10_2, n9_10, y9_12_0, y9_12_1, n9_12, y9_13_0, y9_13_1, y9_13_2, q9_a0_0, q9_a0_1, q9_A6_0, q9_A6_1⟩ := hcut
  skip
  try clear b1
  try clear d1
  try clear D1
  try clear y1_4_0
  try clear y1_4_1
  try clear n1_4
  try clear y1_5_0
  try clear y1_5_1
  try clear y1_5_2
  try clear n1_5
  try clear q1_a0_0
  try clear q1_a0_1
  try clear x5_0
  try clear x5_0'
  try clear x5_1
  try clear x5_1'
  try clear d2
  try clear D2
  try clear y2_4_0
  try clear y2_4_1
  try clear n2_4
  try clear y2_5_0
  try clear y2_5_1
  try clear y2_5_2
  try clear n2_5
  try clear q2_a0_0
  try clear q2_a0_1
  try clear q2_A2_0
  try clear q2_A2_1
  try clear v2_0
  try clear x2_0
  try clear x2_0'
  try clear x2_1
  try clear x2_1'
  try clear d3
  try clear D3
  try clear y3_4_0
  try clear y3_4_1
  try clear n3_4
  try clear y3_5_0
  try clear y3_5_1
  try clear y3_5_2
  try clear n3_5
  try clear q3_a0_0
  try clear q3_a0_1
  try clear q3_A2_0
  try clear q3_A2_1
  try clear v3_0
  try clear v3_1
  try clear x3_0
  try clear x3_0'
  try clear x3_1
  try clear x3_1'
  try clear d4
  try clear D4
  try clear y4_4_0
  try clear y4_4_1
  try clear n4_4
  try clear y4_5_0
  try clear y4_5_1
  try clear y4_5_2
  try clear n4_5
  try clear q4_a0_0
  try clear q4_a0_1
  try clear v4_0
  try clear v4_1
  try clear v4_2
  try clear x4_0
  try clear x4_0'
  try clear x4_1
  try clear x4_1'
  try clear b3
  try clear b4
  try clear b2
  try clear p2_0
  try clear p2_1
  try clear n5_10
  try clear D5
  try clear y5_4_0
  try clear y5_4_1
  try clear n5_4
  try clear y5_5_0
  try clear y5_5_1
  try clear y5_5_2
  try clear n5_5
  try clear y5_10_0
  try clear y5_10_1
  try clear y5_10_2
  try clear q5_a0_0
  try clear q5_a0_1
  try clear b6
  try clear p6_0
  try clear p6_1
  try clear d6
  try clear D6
  try clear y6_4_0
  try clear y6_4_1
  try clear n6_4
  try clear y6_5_0
  try clear y6_5_1
  try clear y6_5_2
  try clear n6_5
  try clear y6_10_0
  try clear y6_10_1
  try clear y6_10_2
  try clear n6_10
  try clear q6_a0_0
  try clear q6_a0_1
  try clear q6_A6_0
  try clear q6_A6_1
  try clear x7_0
  try clear x7_0'
  try clear x7_1
  try clear x7_1'
  try clear d7
  try clear D7
  try clear y7_4_0
  try clear y7_4_1
  try clear n7_4
  try clear y7_5_0
  try clear y7_5_1
  try clear y7_5_2
  try clear n7_5
  try clear y7_10_0
  try clear y7_10_1
  try clear y7_10_2
  try clear n7_10
  try clear y7_12_0
  try clear y7_12_1
  try clear n7_12
  try clear q7_a0_0
  try clear q7_a0_1
  try clear q7_A6_0
  try clear q7_A6_1
  try clear v7_0
  try clear v7_0_1
  try clear d8
  try clear D8
  try clear y8_4_0
  try clear y8_4_1
  try clear n8_4
  try clear y8_5_0
  try clear y8_5_1
  try clear y8_5_2
  try clear n8_5
  try clear y8_10_0
  try clear y8_10_1
  try clear y8_10_2
  try clear n8_10
  try clear y8_12_0
  try clear y8_12_1
  try clear n8_12
  try clear q8_a0_0
  try clear q8_a0_1
  try clear q8_A6_0
  try clear q8_A6_1
  try clear v8_0
  try clear v8_1
  try clear v8_0_1
  try clear x8_0
  try clear x8_0'
  try clear x8_1
  try clear x8_1'
  try clear b7
  try clear b8
  go_wp2_with fail
  refine (eqBreach_x _ _ _ _ ).mono ?_
  rintro e10 W10 ⟨rfl, b10⟩
  obtain ⟨k10, _⟩ := bcell b10
  have s10 : W9.heap.size + 0 ≤ W10.heap.size := by have := b10.size; (try simp at this); omega
  have d10 : Below W9.heap.size W9 W10 := (by repeat (first | assumption | exact Below.refl _ _ | (refine Below.trans ?_ (b10.mono (by first | omega | (simp; done) | (simp; omega)))) | (refine Below.setCell ?_ (by first | omega | (simp; done) | (simp; omega)) _) | apply below_drewN | apply Below.drew | (refine Below.alloc ?_ (by first | omega | (simp; done) | (simp; omega)) _)))
  have D10 : Below w.heap.size w W10 := Below.trans D9 (d10.mono (by omega))
  have y10_4_0 : W10.cell? ⟨w.heap.size, 0, none⟩ = some (.slice a0_0 la0_0 ca0_0) := (d10.cell (p := ⟨w.heap.size, 0, none⟩) (show w.heap.size < W9.heap.size by omega)).trans y9_4_0
  have y10_4_1 : W10.cell? ⟨w.heap.size, 1, none⟩ = some (.slice a0_1 la0_1 ca0_1) := (d10.cell (p := ⟨w.heap.size, 1, none⟩) (show w.heap.size < W9.heap.size by omega)).trans y9_4_1
  have n10_4 : w.heap.size < W10.heap.size := by omega
  have y10_12_0 : W10.cell? ⟨W6.heap.size, 0, none⟩ = some (.slice A6_0 la0_0 c6_0) := (d10.cell (p := ⟨W6.heap.size, 0, none⟩) (show W6.heap.size < W9.heap.size by omega)).trans y9_12_0
  have y10_12_1 : W10.cell? ⟨W6.heap.size, 1, none⟩ = some (.slice A6_1 la0_1 c6_1) := (d10.cell (p := ⟨W6.heap.size, 1, none⟩) (show W6.heap.size < W9.heap.size by omega)).trans y9_12_1
  have n10_12 : W6.heap.size < W10.heap.size := by omega
  have q10_a0_0 : Rd W10 w.heap.size a0_0 la0_0 xa0_0 := q9_a0_0.below (d10.mono (by omega))
  have q10_a0_1 : Rd W10 w.heap.size a0_1 la0_1 xa0_1 := q9_a0_1.below (d10.mono (by omega))
  have q10_A6_0 : Wr W10 (W5.heap.size + 0) A6_0 la0_0 xa0_0 := q9_A6_0.below d10
  have q10_A6_1 : Wr W10 (W5.heap.size + 0) A6_1 la0_1 xa0_1 := q9_A6_1.below d10
  clear k10 y9_4_0 y9_4_1 n9_4 y9_10_0 y9_10_1 y9_10_2 y9_12_0 y9_12_1 n9_12 y9_13_0 y9_13_1 y9_13_2
  go_wp2_with fail
  go_region_held3 (fun w' => w'.cell? ⟨W6.heap.size, 0, none⟩ = some (.slice A6_0 la0_0 c6_0) ∧ w'.cell? ⟨W6.heap.size, 1, none⟩ = some (.slice A6_1 la0_1 c6_1) ∧ w'.cell? ⟨w.heap.size, 0, none⟩ = some (.slice a0_0 la0_0 ca0_0) ∧ w'.cell? ⟨w.heap.size, 1, none⟩ = some (.slice a0_1 la0_1 ca0_1)) (go_keep) (first | (go_at_call 15; refine (toCurve_x _ _ _ xa0_0 _ _ _ xa0_1 _ ha0_0 (Rd.mono (q10_a0_0.below (by repeat (first | assumption | exact Below.refl _ _ | (refine Below.setCell ?_ (by first | omega | (simp; done) | (simp; omega)) _) | apply below_drewN | apply Below.drew | (refine Below.alloc ?_ (by first | omega | (simp; done) | (simp; omega)) _)))) (by first | omega | (simp; done) | (simp; omega))) ha0_1 (Rd.mono (q10_a0_1.below (by repeat (first | assumption | exact Below.refl _ _ | (refine Below.setCell ?_ (by first | omega | (simp; done) | (simp; omega)) _) | apply below_drewN | apply Below.drew | (refine Below.alloc ?_ (by first | omega | (simp; done) | (simp; omega)) _)))) (by first | omega | (simp; done) | (simp; omega)))).mono ?_; rintro e11 W11 ⟨A11_0, A11_1, c11_0, c11_1, rfl, b11, p11_0, p11_1, dis11_0_1⟩; obtain ⟨k11, _⟩ := bcell b11; (have s11 : W10.heap.size + 0 ≤ W11.heap.size := by have := b11.size; (try simp at this); omega); (have d11 : Below W10.heap.size W10 W11 := (by repeat (first | assumption | exact Below.refl _ _ | (refine Below.trans ?_ (b11.mono (by first | omega | (simp; done) | (simp; omega)))) | (refine Below.setCell ?_ (by first | omega | (simp; done) | (simp; omega)) _) | apply below_drewN | apply Below.drew | (refine Below.alloc ?_ (by first | omega | (simp; done) | (simp; omega)) _)))); (have D11 : Below w.heap.size w W11 := Below.trans D10 (d11.mono (by omega))); (have y11_4_0 : W11.cell? ⟨w.heap.size, 0, none⟩ = some (.slice a0_0 la0_0 ca0_0) := (d11.cell (p := ⟨w.heap.size, 0, none⟩) (show w.heap.size < W10.heap.size by omega)).trans y10_4_0); (have y11_4_1 : W11.cell? ⟨w.heap.size, 1, none⟩ = some (.slice a0_1 la0_1 ca0_1) := (d11.cell (p := ⟨w.heap.size, 1, none⟩) (show w.heap.size < W10.heap.size by omega)).trans y10_4_1); (have n11_4 : w.heap.size < W11.heap.size := by omega); (have y11_12_0 : W11.cell? ⟨W6.heap.size, 0, none⟩ = some (.slice A6_0 la0_0 c6_0) := (d11.cell (p := ⟨W6.heap.size, 0, none⟩) (show W6.heap.size < W10.heap.size by omega)).trans y10_12_0); (have y11_12_1 : W11.cell? ⟨W6.heap.size, 1, none⟩ = some (.slice A6_1 la0_1 c6_1) := (d11.cell (p := ⟨W6.heap.size, 1, none⟩) (show W6.heap.size < W10.heap.size by omega)).trans y10_12_1); (have n11_12 : W6.heap.size < W11.heap.size := by omega); (have q11_A6_0 : Wr W11 (W5.heap.size + 0) A6_0 la0_0 xa0_0 := q10_A6_0.below d11); (have q11_A6_1 : Wr W11 (W5.heap.size + 0) A6_1 la0_1 xa0_1 := q10_A6_1.below d11); clear k11 y10_4_0 y10_4_1 n10_4 y10_12_0 y10_12_1 n10_12; (have q11_A11_0 : Wr W11 (W10.heap.size + 0) A11_0 la0_0 xa0_0 := p11_0.lower (by first | omega | (simp; done) | (simp; omega))); (have t11_0 := q11_A11_0.lt); (have q11_A11_1 : Wr W11 (W10.heap.size + 0) A11_1 la0_1 xa0_1 := p11_1.lower (by first | omega | (simp; done) | (simp; omega))); (have t11_1 := q11_A11_1.lt)) | (go_at_call 18; refine (eqCurve_x _ _ _ _ _ xa0_0 _ _ _ _ _ xa0_1 _ ha0_0 (Rd.mono ((q11_A6_0.rd).below (by repeat (first | assumption | exact Below.refl _ _ | (refine Below.setCell ?_ (by first | omega | (simp; done) | (simp; omega)) _) | apply below_drewN | apply Below.drew | (refine Below.alloc ?_ (by first | omega | (simp; done) | (simp; omega)) _)))) (by first | omega | (simp; done) | (simp; omega))) (Rd.mono ((q11_A11_0.rd).below (by repeat (first | assumption | exact Below.refl _ _ | (refine Below.setCell ?_ (by first | omega | (simp; done) | (simp; omega)) _) | apply below_drewN | apply Below.drew | (refine Below.alloc ?_ (by first | omega | (simp; done) | (simp; omega)) _)))) (by first | omega | (simp; done) | (simp; omega))) ha0_1 (Rd.mono ((q11_A6_1.rd).below (by repeat (first | assumption | exact Below.refl _ _ | (refine Below.setCell ?_ (by first | omega | (simp; done) | (simp; omega)) _) | apply below_drewN | apply Below.drew | (refine Below.alloc ?_ (by first | omega | (simp; done) | (simp; omega)) _)))) (by first | omega | (simp; done) | (simp; omega))) (Rd.mono ((q11_A11_1.rd).below (by repeat (first | assumption | exact Below.refl _ _ | (refine Below.setCell ?_ (by first | omega | (simp; done) | (simp; omega)) _) | apply below_drewN | apply Below.drew | (refine Below.alloc ?_ (by first | omega | (simp; done) | (simp; omega)) _)))) (by first | omega | (simp; done) | (simp; omega)))).mono ?_; rintro e12 W12 ⟨rfl, b12⟩; obtain ⟨k12, _⟩ := bcell b12; (have s12 : W11.heap.size + 0 ≤ W12.heap.size := by have := b12.size; (try simp at this); omega); (have d12 : Below W11.heap.size W11 W12 := (by repeat (first | assumption | exact Below.refl _ _ | (refine Below.trans ?_ (b12.mono (by first | omega | (simp; done) | (simp; omega)))) | (refine Below.setCell ?_ (by first | omega | (simp; done) | (simp; omega)) _) | apply below_drewN | apply Below.drew | (refine Below.alloc ?_ (by first | omega | (simp; done) | (simp; omega)) _)))); (have D12 : Below w.heap.size w W12 := Below.trans D11 (d12.mono (by omega))); (have y12_4_0 : W12.cell? ⟨w.heap.size, 0, none⟩ = some (.slice a0_0 la0_0 ca0_0) := (d12.cell (p := ⟨w.heap.size, 0, none⟩) (show w.heap.size < W11.heap.size by omega)).trans y11_4_0); (have y12_4_1 : W12.cell? ⟨w.heap.size, 1, none⟩ = some (.slice a0_1 la0_1 ca0_1) := (d12.cell (p := ⟨w.heap.size, 1, none⟩) (show w.heap.size < W11.heap.size by omega)).trans y11_4_1); (have n12_4 : w.heap.size < W12.heap.size := by omega); (have y12_12_0 : W12.cell? ⟨W6.heap.size, 0, none⟩ = some (.slice A6_0 la0_0 c6_0) := (d12.cell (p := ⟨W6.heap.size, 0, none⟩) (show W6.heap.size < W11.heap.size by omega)).trans y11_12_0); (have y12_12_1 : W12.cell? ⟨W6.heap.size, 1, none⟩ = some (.slice A6_1 la0_1 c6_1) := (d12.cell (p := ⟨W6.heap.size, 1, none⟩) (show W6.heap.size < W11.heap.size by omega)).trans y11_12_1); (have n12_12 : W6.heap.size < W12.heap.size := by omega); clear k12 y11_4_0 y11_4_1 n11_4 y11_12_0 y11_12_1 n11_12))
  go_wp2
  go_ret
  exact ⟨rfl, (by repeat (first | assumption | exact Below.refl _ _ | (refine Below.trans ?_ (D12.mono (by first | omega | (simp; done) | (simp; omega)))) | (refine Below.setCell ?_ (by first | omega | (simp; done) | (simp; omega)) _) | apply below_drewN | apply Below.drew | (refine Below.alloc ?_ (by first | omega | (simp; done) | (simp; omega)) _)))⟩

set_option maxRecDepth 100000 in
set_option maxHeartbeats 1000000 in
theorem walk_FnExactStepBreach (a0_0 : Option Addr) (la0_0 ca0_0 : Nat) (za0_0 : List Int) (a0_1 : Option Addr) (la0_1 ca0_1 : Nat) (za0_1 : List Int) (a1_0 : Int) (a1_1 : Int) (a1_2 : Int) (a2 : Int) (a3 : Int) (w : World) (wa0_0 : IsRow .i64 w a0_0 la0_0 ca0_0 za0_0) (wa0_1 : IsRow .i64 w a0_1 la0_1 ca0_1 za0_1) (wa1_0 : (Lit.int .i64 a1_0).wf = true) (wa1_1 : (Lit.int .i64 a1_1).wf = true) (wa1_2 : (Lit.int .i64 a1_2).wf = true) (wa2 : (Lit.int .i64 a2).wf = true) (wa3 : (Lit.int .i64 a3).wf = true) (hL : laidMetH Tryd.prog Rows.fnExactStepBreachRow.laid w) :
    Calls Tryd.prog 5 #[.agg #[.slice a0_0 la0_0 ca0_0, .slice a0_1 la0_1 ca0_1], .agg #[.int .i64 a1_0, .int .i64 a1_1, .int .i64 a1_2], .int .i64 a2, .int .i64 a3] w fun e w' => e = .returned (.bool true) ∧ Below w.heap.size w w' := by
  obtain ⟨se0, se1, hsent⟩ := sent_of hL
  have ma0_0 := wa0_0.len
  have ma0_1 := wa0_1.len
  unfold maxLen at ma0_0 ma0_1
  by_cases htot : la0_0 + la0_1 ≤ 1048576
  case neg =>
    go_enter Tryd.func5, Tryd.ntmps5
    go_wp2
    all_goals (first | (go_ret; exact ⟨rfl, (by repeat (first | assumption | exact Below.refl _ _ | (refine Below.setCell ?_ (by first | omega | (simp; done) | (simp; omega)) _) | apply below_drewN | apply Below.drew | (refine Below.alloc ?_ (by first | omega | (simp; done) | (simp; omega)) _)))⟩) | (exfalso; omega))
  exact law_StepBreach a0_0 la0_0 ca0_0 (za0_0.take la0_0) a0_1 la0_1 ca0_1 (za0_1.take la0_1) a1_0 a1_1 a1_2 a2 a3 w (by omega) wa0_0.rd wa0_0.wf (by omega) wa0_1.rd wa0_1.wf wa1_0 wa1_1 wa1_2 wa2 wa3 htot se0 se1 hsent

end Go.Proofs.YtckhfkgldemcnaaDoor
