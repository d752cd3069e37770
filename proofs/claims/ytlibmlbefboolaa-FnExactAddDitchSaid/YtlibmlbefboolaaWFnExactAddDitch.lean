/- The walk of the law on AddDitch: written by a program out of the law's operations. -/
import Derived.Test.YtlibmlbefboolaaCAddDitch
import Derived.Deep.DeepCutAuto

import Derived.Test.YtlibmlbefboolaaOut
namespace Go.Proofs.Ytlibmlbefboolaa
open Go.RowKit

set_option maxRecDepth 100000 in
set_option maxHeartbeats 4000000 in
theorem law_AddDitch (a0_0 : Int) (a0_1 : Option Addr) (la0_1 ca0_1 : Nat) (xa0_1 : List RDitch) (a1_0 : Int) (a1_1 : Int) (a1_2 : Int) (w : World) (ha0_0 : (Lit.int .i64 a0_0).wf = true) (ha0_1 : la0_1 ≤ 1048576) (ra0_1 : Rd_Ditch w w.heap.size a0_1 la0_1 xa0_1) (fa0_1 : Wf_Ditch xa0_1) (ha1_0 : (Lit.int .i64 a1_0).wf = true) (ha1_1 : (Lit.int .i64 a1_1).wf = true) (ha1_2 : (Lit.int .i64 a1_2).wf = true) (htot : la0_1 ≤ 1048576) :
    Calls Try.prog 3 #[.agg #[.int .i64 a0_0, .slice a0_1 la0_1 ca0_1], .agg #[.int .i64 a1_0, .int .i64 a1_1, .int .i64 a1_2]] w fun e w' => e = .returned (.bool true) ∧ Below w.heap.size w w' := by
  have er0_AddDitch : ((r0_AddDitch a0_0 xa0_1 a1_0 a1_1 a1_2) != (r0_AddDitch a0_0 xa0_1 a1_0 a1_1 a1_2)) = false := by simp
  have er2_AddDitch : ((r2_AddDitch a0_0 xa0_1 a1_0 a1_1 a1_2) != (r2_AddDitch a0_0 xa0_1 a1_0 a1_1 a1_2)) = false := by simp
  have hl_r1_AddDitch := len_r1_AddDitch a0_0 xa0_1 a1_0 a1_1 a1_2
  go_enter Try.func3, Try.ntmps3
  go_wp2_with fail
  refine (szNet_ok _ _ _ _ _ _ (by omega) (by omega)).mono ?_
  rintro e1 W1 ⟨rfl, b1⟩
  obtain ⟨k1, _⟩ := bcell b1
  have s1 : w.heap.size + 2 ≤ W1.heap.size := by have := b1.size; (try simp at this); omega
  have d1 : Below w.heap.size w W1 := (by repeat (first | assumption | exact Below.refl _ _ | (refine Below.trans ?_ (b1.mono (by first | omega | (simp; done) | (simp; omega)))) | (refine Below.setCell ?_ (by first | omega | (simp; done) | (simp; omega)) _) | apply below_drewN | apply Below.drew | (refine Below.alloc ?_ (by first | omega | (simp; done) | (simp; omega)) _)))
  have D1 : Below w.heap.size w W1 := (d1.mono (by omega))
  have y1_2_0 : W1.cell? ⟨w.heap.size, 0, none⟩ = some (.int .i64 a0_0) := by rw [k1 _ _ (by first | omega | (simp; done) | (simp; omega))]; first | (simp; done) | go_simp
  have y1_2_1 : W1.cell? ⟨w.heap.size, 1, none⟩ = some (.slice a0_1 la0_1 ca0_1) := by rw [k1 _ _ (by first | omega | (simp; done) | (simp; omega))]; first | (simp; done) | go_simp
  have n1_2 : w.heap.size < W1.heap.size := by omega
  have y1_3_0 : W1.cell? ⟨w.heap.size + 1, 0, none⟩ = some (.int .i64 a1_0) := by rw [k1 _ _ (by first | omega | (simp; done) | (simp; omega))]; first | (simp; done) | go_simp
  have y1_3_1 : W1.cell? ⟨w.heap.size + 1, 1, none⟩ = some (.int .i64 a1_1) := by rw [k1 _ _ (by first | omega | (simp; done) | (simp; omega))]; first | (simp; done) | go_simp
  have y1_3_2 : W1.cell? ⟨w.heap.size + 1, 2, none⟩ = some (.int .i64 a1_2) := by rw [k1 _ _ (by first | omega | (simp; done) | (simp; omega))]; first | (simp; done) | go_simp
  have n1_3 : w.heap.size + 1 < W1.heap.size := by omega
  have q1_a0_1 : Rd_Ditch W1 w.heap.size a0_1 la0_1 xa0_1 := ra0_1.below (d1.mono (by omega))
  clear k1
  have x5_0 : ¬ w.heap.size = W1.heap.size := by omega
  have x5_0' : ¬ W1.heap.size = w.heap.size := by omega
  have x5_1 : ¬ w.heap.size + 1 = W1.heap.size := by omega
  have x5_1' : ¬ W1.heap.size = w.heap.size + 1 := by omega
  go_upto_region 5 with fail
  go_cut [6, 7] (fun s6 s7 W5' => ∃ (W5 : World) (g5 : Nat) (A4_0 : Option Addr) (c4_0 : Nat) (lo5 hi5 : Nat), W5 = W5' ∧ s6 = .pointer (some ⟨g5, 0, none⟩) ∧ s7 = .int .i64 (r2_AddDitch a0_0 xa0_1 a1_0 a1_1 a1_2) ∧ W1.heap.size ≤ g5 ∧ g5 < W5.heap.size ∧ g5 < W5.heap.size ∧ Below w.heap.size w W5 ∧ W1.heap.size + 0 ≤ W5.heap.size ∧ W5.cell? ⟨w.heap.size, 0, none⟩ = some (.int .i64 a0_0) ∧ W5.cell? ⟨w.heap.size, 1, none⟩ = some (.slice a0_1 la0_1 ca0_1) ∧ w.heap.size < W5.heap.size ∧ W5.cell? ⟨w.heap.size + 1, 0, none⟩ = some (.int .i64 a1_0) ∧ W5.cell? ⟨w.heap.size + 1, 1, none⟩ = some (.int .i64 a1_1) ∧ W5.cell? ⟨w.heap.size + 1, 2, none⟩ = some (.int .i64 a1_2) ∧ w.heap.size + 1 < W5.heap.size ∧ W5.cell? ⟨g5, 0, none⟩ = some (.int .i64 (r0_AddDitch a0_0 xa0_1 a1_0 a1_1 a1_2)) ∧ W5.cell? ⟨g5, 1, none⟩ = some (.slice A4_0 (r1_AddDitch a0_0 xa0_1 a1_0 a1_1 a1_2).length c4_0) ∧ Rd_Ditch W5 w.heap.size a0_1 la0_1 xa0_1 ∧ Wr_Ditch W5 lo5 A4_0 (r1_AddDitch a0_0 xa0_1 a1_0 a1_1 a1_2).length (r1_AddDitch a0_0 xa0_1 a1_0 a1_1 a1_2) ∧ Lt hi5 A4_0 (r1_AddDitch a0_0 xa0_1 a1_0 a1_1 a1_2).length ∧ W1.heap.size ≤ lo5 ∧ hi5 ≤ W5.heap.size ∧ (g5 < lo5 ∨ hi5 ≤ g5))
  case first =>
    go_region_held3 (fun w' => w'.cell? ⟨w.heap.size, 0, none⟩ = some (.int .i64 a0_0) ∧ w'.cell? ⟨w.heap.size, 1, none⟩ = some (.slice a0_1 la0_1 ca0_1) ∧ w'.cell? ⟨w.heap.size + 1, 0, none⟩ = some (.int .i64 a1_0) ∧ w'.cell? ⟨w.heap.size + 1, 1, none⟩ = some (.int .i64 a1_1) ∧ w'.cell? ⟨w.heap.size + 1, 2, none⟩ = some (.int .i64 a1_2)) (first | ((refine ⟨?_, ?_, ?_, ?_, ?_⟩ <;> (repeat (first | (with_reducible assumption) | (with_reducible refine keepA ?_) | (with_reducible refine keepD ?_) | ((with_reducible refine keep1 ?_ ?_); rotate_left 1; omega) | (simp; done)))); done) | go_keep) (first | (go_at_call 10; refine (toNet_x _ _ _ _ xa0_1 _ ha0_1 (Rd_Ditch.mono (q1_a0_1.below (by repeat (first | assumption | exact Below.refl _ _ | (refine Below.setCell ?_ (by first | omega | (simp; done) | (simp; omega)) _) | apply below_drewN | apply Below.drew | (refine Below.alloc ?_ (by first | omega | (simp; done) | (simp; omega)) _)))) (by first | omega | (simp; done) | (simp; omega)))).mono ?_; rintro e2 W2 ⟨A2_0, c2_0, rfl, b2, p2_0⟩; obtain ⟨k2, f2⟩ := bcell b2; (have s2 : W1.heap.size + 0 ≤ W2.heap.size := by have := b2.size; (try simp at this); omega); (have d2 : Below W1.heap.size W1 W2 := (by repeat (first | assumption | exact Below.refl _ _ | (refine Below.trans ?_ (b2.mono (by first | omega | (simp; done) | (simp; omega)))) | (refine Below.setCell ?_ (by first | omega | (simp; done) | (simp; omega)) _) | apply below_drewN | apply Below.drew | (refine Below.alloc ?_ (by first | omega | (simp; done) | (simp; omega)) _)))); (have D2 : Below w.heap.size w W2 := Below.trans D1 (d2.mono (by omega))); (have y2_2_0 : W2.cell? ⟨w.heap.size, 0, none⟩ = some (.int .i64 a0_0) := (d2.cell (p := ⟨w.heap.size, 0, none⟩) (show w.heap.size < W1.heap.size by omega)).trans y1_2_0); (have y2_2_1 : W2.cell? ⟨w.heap.size, 1, none⟩ = some (.slice a0_1 la0_1 ca0_1) := (d2.cell (p := ⟨w.heap.size, 1, none⟩) (show w.heap.size < W1.heap.size by omega)).trans y1_2_1); (have n2_2 : w.heap.size < W2.heap.size := by omega); (have y2_3_0 : W2.cell? ⟨w.heap.size + 1, 0, none⟩ = some (.int .i64 a1_0) := (d2.cell (p := ⟨w.heap.size + 1, 0, none⟩) (show w.heap.size + 1 < W1.heap.size by omega)).trans y1_3_0); (have y2_3_1 : W2.cell? ⟨w.heap.size + 1, 1, none⟩ = some (.int .i64 a1_1) := (d2.cell (p := ⟨w.heap.size + 1, 1, none⟩) (show w.heap.size + 1 < W1.heap.size by omega)).trans y1_3_1); (have y2_3_2 : W2.cell? ⟨w.heap.size + 1, 2, none⟩ = some (.int .i64 a1_2) := (d2.cell (p := ⟨w.heap.size + 1, 2, none⟩) (show w.heap.size + 1 < W1.heap.size by omega)).trans y1_3_2); (have n2_3 : w.heap.size + 1 < W2.heap.size := by omega); (have q2_a0_1 : Rd_Ditch W2 w.heap.size a0_1 la0_1 xa0_1 := q1_a0_1.below (d2.mono (by omega))); clear y1_2_0 y1_2_1 n1_2 y1_3_0 y1_3_1 y1_3_2 n1_3; (have q2_A2_0 : Wr_Ditch W2 (W1.heap.size + 0) A2_0 la0_1 xa0_1 := p2_0.lower (by first | omega | (simp; done) | (simp; omega))); (have t2_0 := q2_A2_0.lt); (try have v2_0 : W1.heap.size < W2.heap.size := (by have := b2.size; (try simp at this); omega)); (have x2_0 : ¬ w.heap.size = W2.heap.size := (by omega)); (have x2_0' : ¬ W2.heap.size = w.heap.size := (by omega)); (have x2_1 : ¬ w.heap.size + 1 = W2.heap.size := (by omega)); (have x2_1' : ¬ W2.heap.size = w.heap.size + 1 := (by omega))) | (go_at_call 11; refine (toDitch_x _ _ _ _ ).mono ?_; rintro e3 W3 ⟨rfl, b3⟩; obtain ⟨k3, f3⟩ := bcell b3; (have s3 : W2.heap.size + 0 ≤ W3.heap.size := by have := b3.size; (try simp at this); omega); (have d3 : Below W2.heap.size W2 W3 := (by repeat (first | assumption | exact Below.refl _ _ | (refine Below.trans ?_ (b3.mono (by first | omega | (simp; done) | (simp; omega)))) | (refine Below.setCell ?_ (by first | omega | (simp; done) | (simp; omega)) _) | apply below_drewN | apply Below.drew | (refine Below.alloc ?_ (by first | omega | (simp; done) | (simp; omega)) _)))); (have D3 : Below w.heap.size w W3 := Below.trans D2 (d3.mono (by omega))); (have y3_2_0 : W3.cell? ⟨w.heap.size, 0, none⟩ = some (.int .i64 a0_0) := (d3.cell (p := ⟨w.heap.size, 0, none⟩) (show w.heap.size < W2.heap.size by omega)).trans y2_2_0); (have y3_2_1 : W3.cell? ⟨w.heap.size, 1, none⟩ = some (.slice a0_1 la0_1 ca0_1) := (d3.cell (p := ⟨w.heap.size, 1, none⟩) (show w.heap.size < W2.heap.size by omega)).trans y2_2_1); (have n3_2 : w.heap.size < W3.heap.size := by omega); (have y3_3_0 : W3.cell? ⟨w.heap.size + 1, 0, none⟩ = some (.int .i64 a1_0) := (d3.cell (p := ⟨w.heap.size + 1, 0, none⟩) (show w.heap.size + 1 < W2.heap.size by omega)).trans y2_3_0); (have y3_3_1 : W3.cell? ⟨w.heap.size + 1, 1, none⟩ = some (.int .i64 a1_1) := (d3.cell (p := ⟨w.heap.size + 1, 1, none⟩) (show w.heap.size + 1 < W2.heap.size by omega)).trans y2_3_1); (have y3_3_2 : W3.cell? ⟨w.heap.size + 1, 2, none⟩ = some (.int .i64 a1_2) := (d3.cell (p := ⟨w.heap.size + 1, 2, none⟩) (show w.heap.size + 1 < W2.heap.size by omega)).trans y2_3_2); (have n3_3 : w.heap.size + 1 < W3.heap.size := by omega); (have q3_a0_1 : Rd_Ditch W3 w.heap.size a0_1 la0_1 xa0_1 := q2_a0_1.below (d3.mono (by omega))); (have q3_A2_0 : Wr_Ditch W3 (W1.heap.size + 0) A2_0 la0_1 xa0_1 := q2_A2_0.below d3); clear y2_2_0 y2_2_1 n2_2 y2_3_0 y2_3_1 y2_3_2 n2_3; (try have v3_0 : W1.heap.size < W3.heap.size := (by have := b3.size; (try simp at this); omega)); (try have v3_1 : W2.heap.size < W3.heap.size := (by have := b3.size; (try simp at this); omega)); (have x3_0 : ¬ w.heap.size = W3.heap.size := (by omega)); (have x3_0' : ¬ W3.heap.size = w.heap.size := (by omega)); (have x3_1 : ¬ w.heap.size + 1 = W3.heap.size := (by omega)); (have x3_1' : ¬ W3.heap.size = w.heap.size + 1 := (by omega))) | (go_at_call 9; refine (specC_AddDitch _ _ _ _ xa0_1 _ _ _ _ ha0_0 ha0_1 (Rd_Ditch.mono ((q3_A2_0.rd).below (by repeat (first | assumption | exact Below.refl _ _ | (refine Below.setCell ?_ (by first | omega | (simp; done) | (simp; omega)) _) | apply below_drewN | apply Below.drew | (refine Below.alloc ?_ (by first | omega | (simp; done) | (simp; omega)) _)))) (by first | omega | (simp; done) | (simp; omega))) fa0_1 ha1_0 ha1_1 ha1_2).mono ?_; rintro e4 W4 ⟨A4_0, c4_0, rfl, b4, p4_0⟩; obtain ⟨k4, f4⟩ := bcell b4; (have s4 : W3.heap.size + 0 ≤ W4.heap.size := by have := b4.size; (try simp at this); omega); (have d4 : Below W3.heap.size W3 W4 := (by repeat (first | assumption | exact Below.refl _ _ | (refine Below.trans ?_ (b4.mono (by first | omega | (simp; done) | (simp; omega)))) | (refine Below.setCell ?_ (by first | omega | (simp; done) | (simp; omega)) _) | apply below_drewN | apply Below.drew | (refine Below.alloc ?_ (by first | omega | (simp; done) | (simp; omega)) _)))); (have D4 : Below w.heap.size w W4 := Below.trans D3 (d4.mono (by omega))); (have y4_2_0 : W4.cell? ⟨w.heap.size, 0, none⟩ = some (.int .i64 a0_0) := (d4.cell (p := ⟨w.heap.size, 0, none⟩) (show w.heap.size < W3.heap.size by omega)).trans y3_2_0); (have y4_2_1 : W4.cell? ⟨w.heap.size, 1, none⟩ = some (.slice a0_1 la0_1 ca0_1) := (d4.cell (p := ⟨w.heap.size, 1, none⟩) (show w.heap.size < W3.heap.size by omega)).trans y3_2_1); (have n4_2 : w.heap.size < W4.heap.size := by omega); (have y4_3_0 : W4.cell? ⟨w.heap.size + 1, 0, none⟩ = some (.int .i64 a1_0) := (d4.cell (p := ⟨w.heap.size + 1, 0, none⟩) (show w.heap.size + 1 < W3.heap.size by omega)).trans y3_3_0); (have y4_3_1 : W4.cell? ⟨w.heap.size + 1, 1, none⟩ = some (.int .i64 a1_1) := (d4.cell (p := ⟨w.heap.size + 1, 1, none⟩) (show w.heap.size + 1 < W3.heap.size by omega)).trans y3_3_1); (have y4_3_2 : W4.cell? ⟨w.heap.size + 1, 2, none⟩ = some (.int .i64 a1_2) := (d4.cell (p := ⟨w.heap.size + 1, 2, none⟩) (show w.heap.size + 1 < W3.heap.size by omega)).trans y3_3_2); (have n4_3 : w.heap.size + 1 < W4.heap.size := by omega); (have q4_a0_1 : Rd_Ditch W4 w.heap.size a0_1 la0_1 xa0_1 := q3_a0_1.below (d4.mono (by omega))); clear y3_2_0 y3_2_1 n3_2 y3_3_0 y3_3_1 y3_3_2 n3_3; (have q4_A4_0 : Wr_Ditch W4 (W3.heap.size + 0) A4_0 (r1_AddDitch a0_0 xa0_1 a1_0 a1_1 a1_2).length (r1_AddDitch a0_0 xa0_1 a1_0 a1_1 a1_2) := p4_0.lower (by first | omega | (simp; done) | (simp; omega))); (have t4_0 := q4_A4_0.lt); (try have v4_0 : W1.heap.size < W4.heap.size := (by have := b4.size; (try simp at this); omega)); (try have v4_1 : W2.heap.size < W4.heap.size := (by have := b4.size; (try simp at this); omega)); (try have v4_2 : W3.heap.size < W4.heap.size := (by have := b4.size; (try simp at this); omega)); (have x4_0 : ¬ w.heap.size = W4.heap.size := (by omega)); (have x4_0' : ¬ W4.heap.size = w.heap.size := (by omega)); (have x4_1 : ¬ w.heap.size + 1 = W4.heap.size := (by omega)); (have x4_1' : ¬ W4.heap.size = w.heap.size + 1 := (by omega))))
    all_goals (go_wp2_with fail; go_meet; first | (have ho : Out W4 ((W4.setCell ⟨W1.heap.size, 0, none⟩ (.int .i64 (r0_AddDitch a0_0 xa0_1 a1_0 a1_1 a1_2))).setCell ⟨W1.heap.size, 1, none⟩ (.slice A4_0 (r1_AddDitch a0_0 xa0_1 a1_0 a1_1 a1_2).length c4_0)) (W1.heap.size) [(.int .i64 (r0_AddDitch a0_0 xa0_1 a1_0 a1_1 a1_2)), (.slice A4_0 (r1_AddDitch a0_0 xa0_1 a1_0 a1_1 a1_2).length c4_0)] := Out.put W4 (W1.heap.size) [(.int .i64 (r0_AddDitch a0_0 xa0_1 a1_0 a1_1 a1_2)), (.slice A4_0 (r1_AddDitch a0_0 xa0_1 a1_0 a1_1 a1_2).length c4_0)] (by first | omega | (simp; done) | (simp; omega)) (fun i hi => match i, hi with | 0, _ => ⟨.int .i64 0, ((b4.cell (p := ⟨W1.heap.size, 0, none⟩) (by first | omega | (simp; done) | (simp; omega))).trans ((b3.cell (p := ⟨W1.heap.size, 0, none⟩) (by first | omega | (simp; done) | (simp; omega))).trans ((b2.cell (p := ⟨W1.heap.size, 0, none⟩) (by first | omega | (simp; done) | (simp; omega))).trans (by first | (simp; done) | go_simp))))⟩ | 1, _ => ⟨.slice none 0 0, ((b4.cell (p := ⟨W1.heap.size, 1, none⟩) (by first | omega | (simp; done) | (simp; omega))).trans ((b3.cell (p := ⟨W1.heap.size, 1, none⟩) (by first | omega | (simp; done) | (simp; omega))).trans ((b2.cell (p := ⟨W1.heap.size, 1, none⟩) (by first | omega | (simp; done) | (simp; omega))).trans (by first | (simp; done) | go_simp))))⟩ | n + 2, h => absurd h (by simp)); exact ⟨((W4.setCell ⟨W1.heap.size, 0, none⟩ (.int .i64 (r0_AddDitch a0_0 xa0_1 a1_0 a1_1 a1_2))).setCell ⟨W1.heap.size, 1, none⟩ (.slice A4_0 (r1_AddDitch a0_0 xa0_1 a1_0 a1_1 a1_2).length c4_0)), W1.heap.size, A4_0, c4_0, W3.heap.size, W4.heap.size, rfl, rfl, rfl, (by first | omega | (simp; done) | (simp; omega)), ho.lt, ho.lt, (D4.trans (ho.below (by first | omega | (simp; done) | (simp; omega)) (by first | omega | (simp; done) | (simp; omega)))), (by have := ho.size; omega), ((ho.other 0 (by first | omega | (simp; done) | (simp; omega)) (by first | omega | (simp; done) | (simp; omega))).trans y4_2_0), ((ho.other 1 (by first | omega | (simp; done) | (simp; omega)) (by first | omega | (simp; done) | (simp; omega))).trans y4_2_1), (by have := ho.size; omega), ((ho.other 0 (by first | omega | (simp; done) | (simp; omega)) (by first | omega | (simp; done) | (simp; omega))).trans y4_3_0), ((ho.other 1 (by first | omega | (simp; done) | (simp; omega)) (by first | omega | (simp; done) | (simp; omega))).trans y4_3_1), ((ho.other 2 (by first | omega | (simp; done) | (simp; omega)) (by first | omega | (simp; done) | (simp; omega))).trans y4_3_2), (by have := ho.size; omega), (ho.at 0 rfl), (ho.at 1 rfl), (q4_a0_1.below (ho.below (by first | omega | (simp; done) | (simp; omega)) (by first | omega | (simp; done) | (simp; omega)))), ((p4_0.chg p4_0.lt ho.chg (by first | omega | (simp; done) | (simp; omega))).lower (by first | omega | (simp; done) | (simp; omega))), p4_0.lt, (by first | omega | (simp; done) | (simp; omega)), (by have := ho.size; omega), (by first | omega | (simp; done) | (simp; omega))⟩) | (have ho : Out W4 ((W4.setCell ⟨W2.heap.size, 0, none⟩ (.int .i64 (r0_AddDitch a0_0 xa0_1 a1_0 a1_1 a1_2))).setCell ⟨W2.heap.size, 1, none⟩ (.slice A4_0 (r1_AddDitch a0_0 xa0_1 a1_0 a1_1 a1_2).length c4_0)) (W2.heap.size) [(.int .i64 (r0_AddDitch a0_0 xa0_1 a1_0 a1_1 a1_2)), (.slice A4_0 (r1_AddDitch a0_0 xa0_1 a1_0 a1_1 a1_2).length c4_0)] := Out.put W4 (W2.heap.size) [(.int .i64 (r0_AddDitch a0_0 xa0_1 a1_0 a1_1 a1_2)), (.slice A4_0 (r1_AddDitch a0_0 xa0_1 a1_0 a1_1 a1_2).length c4_0)] (by first | omega | (simp; done) | (simp; omega)) (fun i hi => match i, hi with | 0, _ => ⟨.int .i64 0, ((b4.cell (p := ⟨W2.heap.size, 0, none⟩) (by first | omega | (simp; done) | (simp; omega))).trans ((b3.cell (p := ⟨W2.heap.size, 0, none⟩) (by first | omega | (simp; done) | (simp; omega))).trans (by first | (simp; done) | go_simp)))⟩ | 1, _ => ⟨.slice none 0 0, ((b4.cell (p := ⟨W2.heap.size, 1, none⟩) (by first | omega | (simp; done) | (simp; omega))).trans ((b3.cell (p := ⟨W2.heap.size, 1, none⟩) (by first | omega | (simp; done) | (simp; omega))).trans (by first | (simp; done) | go_simp)))⟩ | n + 2, h => absurd h (by simp)); exact ⟨((W4.setCell ⟨W2.heap.size, 0, none⟩ (.int .i64 (r0_AddDitch a0_0 xa0_1 a1_0 a1_1 a1_2))).setCell ⟨W2.heap.size, 1, none⟩ (.slice A4_0 (r1_AddDitch a0_0 xa0_1 a1_0 a1_1 a1_2).length c4_0)), W2.heap.size, A4_0, c4_0, W3.heap.size, W4.heap.size, rfl, rfl, rfl, (by first | omega | (simp; done) | (simp; omega)), ho.lt, ho.lt, (D4.trans (ho.below (by first | omega | (simp; done) | (simp; omega)) (by first | omega | (simp; done) | (simp; omega)))), (by have := ho.size; omega), ((ho.other 0 (by first | omega | (simp; done) | (simp; omega)) (by first | omega | (simp; done) | (simp; omega))).trans y4_2_0), ((ho.other 1 (by first | omega | (simp; done) | (simp; omega)) (by first | omega | (simp; done) | (simp; omega))).trans y4_2_1), (by have := ho.size; omega), ((ho.other 0 (by first | omega | (simp; done) | (simp; omega)) (by first | omega | (simp; done) | (simp; omega))).trans y4_3_0), ((ho.other 1 (by first | omega | (simp; done) | (simp; omega)) (by first | omega | (simp; done) | (simp; omega))).trans y4_3_1), ((ho.other 2 (by first | omega | (simp; done) | (simp; omega)) (by first | omega | (simp; done) | (simp; omega))).trans y4_3_2), (by have := ho.size; omega), (ho.at 0 rfl), (ho.at 1 rfl), (q4_a0_1.below (ho.below (by first | omega | (simp; done) | (simp; omega)) (by first | omega | (simp; done) | (simp; omega)))), ((p4_0.chg p4_0.lt ho.chg (by first | omega | (simp; done) | (simp; omega))).lower (by first | omega | (simp; done) | (simp; omega))), p4_0.lt, (by first | omega | (simp; done) | (simp; omega)), (by have := ho.size; omega), (by first | omega | (simp; done) | (simp; omega))⟩) | (have ho : Out W4 ((W4.setCell ⟨W3.heap.size, 0, none⟩ (.int .i64 (r0_AddDitch a0_0 xa0_1 a1_0 a1_1 a1_2))).setCell ⟨W3.heap.size, 1, none⟩ (.slice A4_0 (r1_AddDitch a0_0 xa0_1 a1_0 a1_1 a1_2).length c4_0)) (W3.heap.size) [(.int .i64 (r0_AddDitch a0_0 xa0_1 a1_0 a1_1 a1_2)), (.slice A4_0 (r1_AddDitch a0_0 xa0_1 a1_0 a1_1 a1_2).length c4_0)] := Out.put W4 (W3.heap.size) [(.int .i64 (r0_AddDitch a0_0 xa0_1 a1_0 a1_1 a1_2)), (.slice A4_0 (r1_AddDitch a0_0 xa0_1 a1_0 a1_1 a1_2).length c4_0)] (by first | omega | (simp; done) | (simp; omega)) (fun i hi => match i, hi with | 0, _ => ⟨.int .i64 0, ((b4.cell (p := ⟨W3.heap.size, 0, none⟩) (by first | omega | (simp; done) | (simp; omega))).trans (by first | (simp; done) | go_simp))⟩ | 1, _ => ⟨.slice none 0 0, ((b4.cell (p := ⟨W3.heap.size, 1, none⟩) (by first | omega | (simp; done) | (simp; omega))).trans (by first | (simp; done) | go_simp))⟩ | n + 2, h => absurd h (by simp)); exact ⟨((W4.setCell ⟨W3.heap.size, 0, none⟩ (.int .i64 (r0_AddDitch a0_0 xa0_1 a1_0 a1_1 a1_2))).setCell ⟨W3.heap.size, 1, none⟩ (.slice A4_0 (r1_AddDitch a0_0 xa0_1 a1_0 a1_1 a1_2).length c4_0)), W3.heap.size, A4_0, c4_0, W3.heap.size + 1, W4.heap.size, rfl, rfl, rfl, (by first | omega | (simp; done) | (simp; omega)), ho.lt, ho.lt, (D4.trans (ho.below (by first | omega | (simp; done) | (simp; omega)) (by first | omega | (simp; done) | (simp; omega)))), (by have := ho.size; omega), ((ho.other 0 (by first | omega | (simp; done) | (simp; omega)) (by first | omega | (simp; done) | (simp; omega))).trans y4_2_0), ((ho.other 1 (by first | omega | (simp; done) | (simp; omega)) (by first | omega | (simp; done) | (simp; omega))).trans y4_2_1), (by have := ho.size; omega), ((ho.other 0 (by first | omega | (simp; done) | (simp; omega)) (by first | omega | (simp; done) | (simp; omega))).trans y4_3_0), ((ho.other 1 (by first | omega | (simp; done) | (simp; omega)) (by first | omega | (simp; done) | (simp; omega))).trans y4_3_1), ((ho.other 2 (by first | omega | (simp; done) | (simp; omega)) (by first | omega | (simp; done) | (simp; omega))).trans y4_3_2), (by have := ho.size; omega), (ho.at 0 rfl), (ho.at 1 rfl), (q4_a0_1.below (ho.below (by first | omega | (simp; done) | (simp; omega)) (by first | omega | (simp; done) | (simp; omega)))), ((p4_0.chg p4_0.lt ho.chg (by first | omega | (simp; done) | (simp; omega))).lower (by first | omega | (simp; done) | (simp; omega))), p4_0.lt, (by first | omega | (simp; done) | (simp; omega)), (by have := ho.size; omega), (by first | omega | (simp; done) | (simp; omega))⟩) | (have ho : Out W4 (W4.alloc (.cells #[(.int .i64 (r0_AddDitch a0_0 xa0_1 a1_0 a1_1 a1_2)), (.slice A4_0 (r1_AddDitch a0_0 xa0_1 a1_0 a1_1 a1_2).length c4_0)] 30)) (W4.heap.size) [(.int .i64 (r0_AddDitch a0_0 xa0_1 a1_0 a1_1 a1_2)), (.slice A4_0 (r1_AddDitch a0_0 xa0_1 a1_0 a1_1 a1_2).length c4_0)] := Out.new W4 [(.int .i64 (r0_AddDitch a0_0 xa0_1 a1_0 a1_1 a1_2)), (.slice A4_0 (r1_AddDitch a0_0 xa0_1 a1_0 a1_1 a1_2).length c4_0)] 30; exact ⟨(W4.alloc (.cells #[(.int .i64 (r0_AddDitch a0_0 xa0_1 a1_0 a1_1 a1_2)), (.slice A4_0 (r1_AddDitch a0_0 xa0_1 a1_0 a1_1 a1_2).length c4_0)] 30)), W4.heap.size, A4_0, c4_0, W3.heap.size, W4.heap.size, rfl, rfl, rfl, (by first | omega | (simp; done) | (simp; omega)), ho.lt, ho.lt, (D4.trans (ho.below (by first | omega | (simp; done) | (simp; omega)) (by first | omega | (simp; done) | (simp; omega)))), (by have := ho.size; omega), ((ho.other 0 (by first | omega | (simp; done) | (simp; omega)) (by first | omega | (simp; done) | (simp; omega))).trans y4_2_0), ((ho.other 1 (by first | omega | (simp; done) | (simp; omega)) (by first | omega | (simp; done) | (simp; omega))).trans y4_2_1), (by have := ho.size; omega), ((ho.other 0 (by first | omega | (simp; done) | (simp; omega)) (by first | omega | (simp; done) | (simp; omega))).trans y4_3_0), ((ho.other 1 (by first | omega | (simp; done) | (simp; omega)) (by first | omega | (simp; done) | (simp; omega))).trans y4_3_1), ((ho.other 2 (by first | omega | (simp; done) | (simp; omega)) (by first | omega | (simp; done) | (simp; omega))).trans y4_3_2), (by have := ho.size; omega), (ho.at 0 rfl), (ho.at 1 rfl), (q4_a0_1.below (ho.below (by first | omega | (simp; done) | (simp; omega)) (by first | omega | (simp; done) | (simp; omega)))), ((p4_0.chg p4_0.lt ho.chg (by first | omega | (simp; done) | (simp; omega))).lower (by first | omega | (simp; done) | (simp; omega))), p4_0.lt, (by first | omega | (simp; done) | (simp; omega)), (by have := ho.size; omega), (by first | omega | (simp; done) | (simp; omega))⟩))
  case rest =>
  obtain ⟨W5, g5, A4_0, c4_0, lo5, hi5, rfl, rfl, rfl, hg5a, hg5b, n5_6, D5, s5, y5_2_0, y5_2_1, n5_2, y5_3_0, y5_3_1, y5_3_2, n5_3, y5_6_0, y5_6_1, q5_a0_1, q5_A4_0, t5_A4_0, hl5a, hl5b, hl5c⟩ := hcut
  skip
  try clear b1
  try clear d1
  try clear D1
  try clear y1_2_0
  try clear y1_2_1
  try clear n1_2
  try clear y1_3_0
  try clear y1_3_1
  try clear y1_3_2
  try clear n1_3
  try clear q1_a0_1
  try clear x5_0
  try clear x5_0'
  try clear x5_1
  try clear x5_1'
  try clear d2
  try clear D2
  try clear y2_2_0
  try clear y2_2_1
  try clear n2_2
  try clear y2_3_0
  try clear y2_3_1
  try clear y2_3_2
  try clear n2_3
  try clear q2_a0_1
  try clear q2_A2_0
  try clear v2_0
  try clear x2_0
  try clear x2_0'
  try clear x2_1
  try clear x2_1'
  try clear d3
  try clear D3
  try clear y3_2_0
  try clear y3_2_1
  try clear n3_2
  try clear y3_3_0
  try clear y3_3_1
  try clear y3_3_2
  try clear n3_3
  try clear q3_a0_1
  try clear q3_A2_0
  try clear v3_0
  try clear v3_1
  try clear x3_0
  try clear x3_0'
  try clear x3_1
  try clear x3_1'
  try clear d4
  try clear D4
  try clear y4_2_0
  try clear y4_2_1
  try clear n4_2
  try clear y4_3_0
  try clear y4_3_1
  try clear y4_3_2
  try clear n4_3
  try clear q4_a0_1
  try clear q4_A4_0
  try clear v4_0
  try clear v4_1
  try clear v4_2
  try clear x4_0
  try clear x4_0'
  try clear x4_1
  try clear x4_1'
  try clear b3
  try clear b2
  try clear b4
  try clear p2_0
  try clear p4_0
  go_wp2_with fail
  refine (toNet_x _ _ _ _ xa0_1 _ ha0_1 (Rd_Ditch.mono (q5_a0_1.below (by repeat (first | assumption | exact Below.refl _ _ | (refine Below.setCell ?_ (by first | omega | (simp; done) | (simp; omega)) _) | apply below_drewN | apply Below.drew | (refine Below.alloc ?_ (by first | omega | (simp; done) | (simp; omega)) _)))) (by first | omega | (simp; done) | (simp; omega)))).mono ?_
  rintro e6 W6 ⟨A6_0, c6_0, rfl, b6, p6_0⟩
  obtain ⟨k6, _⟩ := bcell b6
  have s6 : W5.heap.size + 0 ≤ W6.heap.size := by have := b6.size; (try simp at this); omega
  have d6 : Below W5.heap.size W5 W6 := (by repeat (first | assumption | exact Below.refl _ _ | (refine Below.trans ?_ (b6.mono (by first | omega | (simp; done) | (simp; omega)))) | (refine Below.setCell ?_ (by first | omega | (simp; done) | (simp; omega)) _) | apply below_drewN | apply Below.drew | (refine Below.alloc ?_ (by first | omega | (simp; done) | (simp; omega)) _)))
  have D6 : Below w.heap.size w W6 := Below.trans D5 (d6.mono (by omega))
  have y6_2_0 : W6.cell? ⟨w.heap.size, 0, none⟩ = some (.int .i64 a0_0) := (d6.cell (p := ⟨w.heap.size, 0, none⟩) (show w.heap.size < W5.heap.size by omega)).trans y5_2_0
  have y6_2_1 : W6.cell? ⟨w.heap.size, 1, none⟩ = some (.slice a0_1 la0_1 ca0_1) := (d6.cell (p := ⟨w.heap.size, 1, none⟩) (show w.heap.size < W5.heap.size by omega)).trans y5_2_1
  have n6_2 : w.heap.size < W6.heap.size := by omega
  have y6_3_0 : W6.cell? ⟨w.heap.size + 1, 0, none⟩ = some (.int .i64 a1_0) := (d6.cell (p := ⟨w.heap.size + 1, 0, none⟩) (show w.heap.size + 1 < W5.heap.size by omega)).trans y5_3_0
  have y6_3_1 : W6.cell? ⟨w.heap.size + 1, 1, none⟩ = some (.int .i64 a1_1) := (d6.cell (p := ⟨w.heap.size + 1, 1, none⟩) (show w.heap.size + 1 < W5.heap.size by omega)).trans y5_3_1
  have y6_3_2 : W6.cell? ⟨w.heap.size + 1, 2, none⟩ = some (.int .i64 a1_2) := (d6.cell (p := ⟨w.heap.size + 1, 2, none⟩) (show w.heap.size + 1 < W5.heap.size by omega)).trans y5_3_2
  have n6_3 : w.heap.size + 1 < W6.heap.size := by omega
  have y6_6_0 : W6.cell? ⟨g5, 0, none⟩ = some (.int .i64 (r0_AddDitch a0_0 xa0_1 a1_0 a1_1 a1_2)) := (d6.cell (p := ⟨g5, 0, none⟩) (show g5 < W5.heap.size by omega)).trans y5_6_0
  have y6_6_1 : W6.cell? ⟨g5, 1, none⟩ = some (.slice A4_0 (r1_AddDitch a0_0 xa0_1 a1_0 a1_1 a1_2).length c4_0) := (d6.cell (p := ⟨g5, 1, none⟩) (show g5 < W5.heap.size by omega)).trans y5_6_1
  have n6_6 : g5 < W6.heap.size := by omega
  have q6_a0_1 : Rd_Ditch W6 w.heap.size a0_1 la0_1 xa0_1 := q5_a0_1.below (d6.mono (by omega))
  have q6_A4_0 : Wr_Ditch W6 lo5 A4_0 (r1_AddDitch a0_0 xa0_1 a1_0 a1_1 a1_2).length (r1_AddDitch a0_0 xa0_1 a1_0 a1_1 a1_2) := q5_A4_0.below d6
  clear k6 y5_2_0 y5_2_1 n5_2 y5_3_0 y5_3_1 y5_3_2 n5_3 y5_6_0 y5_6_1 n5_6
  have q6_A6_0 : Wr_Ditch W6 (W5.heap.size + 0) A6_0 la0_1 xa0_1 := p6_0.lower (by first | omega | (simp; done) | (simp; omega))
  have t6_0 := q6_A6_0.lt
  have x7_0 : ¬ W6.heap.size = W6.heap.size + 1 := by omega
  have x7_0' : ¬ W6.heap.size + 1 = W6.heap.size := by omega
  have x7_1 : ¬ w.heap.size + 1 = W6.heap.size + 1 := by omega
  have x7_1' : ¬ W6.heap.size + 1 = w.heap.size + 1 := by omega
  go_upto_region 7 with fail
  go_cut [9, 10] (fun s9 s10 W9' => ∃ (W9 : World) (g7 : Nat) (A8_0 : Option Addr) (c8_0 : Nat) (lo7 hi7 : Nat), W9 = W9' ∧ s9 = .pointer (some ⟨g7, 0, none⟩) ∧ s10 = .int .i64 (r2_AddDitch a0_0 xa0_1 a1_0 a1_1 a1_2) ∧ W6.heap.size ≤ g7 ∧ g7 < W9.heap.size ∧ g7 < W9.heap.size ∧ Below w.heap.size w W9 ∧ W6.heap.size + 1 ≤ W9.heap.size ∧ W9.cell? ⟨w.heap.size, 0, none⟩ = some (.int .i64 a0_0) ∧ W9.cell? ⟨w.heap.size, 1, none⟩ = some (.slice a0_1 la0_1 ca0_1) ∧ w.heap.size < W9.heap.size ∧ W9.cell? ⟨w.heap.size + 1, 0, none⟩ = some (.int .i64 a1_0) ∧ W9.cell? ⟨w.heap.size + 1, 1, none⟩ = some (.int .i64 a1_1) ∧ W9.cell? ⟨w.heap.size + 1, 2, none⟩ = some (.int .i64 a1_2) ∧ w.heap.size + 1 < W9.heap.size ∧ W9.cell? ⟨g5, 0, none⟩ = some (.int .i64 (r0_AddDitch a0_0 xa0_1 a1_0 a1_1 a1_2)) ∧ W9.cell? ⟨g5, 1, none⟩ = some (.slice A4_0 (r1_AddDitch a0_0 xa0_1 a1_0 a1_1 a1_2).length c4_0) ∧ g5 < W9.heap.size ∧ W9.cell? ⟨W6.heap.size, 0, none⟩ = some (.int .i64 a0_0) ∧ W9.cell? ⟨W6.heap.size, 1, none⟩ = some (.slice A6_0 la0_1 c6_0) ∧ W6.heap.size < W9.heap.size ∧ W9.cell? ⟨g7, 0, none⟩ = some (.int .i64 (r0_AddDitch a0_0 xa0_1 a1_0 a1_1 a1_2)) ∧ W9.cell? ⟨g7, 1, none⟩ = some (.slice A8_0 (r1_AddDitch a0_0 xa0_1 a1_0 a1_1 a1_2).length c8_0) ∧ Rd_Ditch W9 w.heap.size a0_1 la0_1 xa0_1 ∧ Wr_Ditch W9 lo5 A4_0 (r1_AddDitch a0_0 xa0_1 a1_0 a1_1 a1_2).length (r1_AddDitch a0_0 xa0_1 a1_0 a1_1 a1_2) ∧ Wr_Ditch W9 (W5.heap.size + 0) A6_0 la0_1 xa0_1 ∧ Wr_Ditch W9 lo7 A8_0 (r1_AddDitch a0_0 xa0_1 a1_0 a1_1 a1_2).length (r1_AddDitch a0_0 xa0_1 a1_0 a1_1 a1_2) ∧ Lt hi7 A8_0 (r1_AddDitch a0_0 xa0_1 a1_0 a1_1 a1_2).length ∧ W6.heap.size ≤ lo7 ∧ hi7 ≤ W9.heap.size ∧ (g7 < lo7 ∨ hi7 ≤ g7))
  case first =>
    go_region_held3 (fun w' => w'.cell? ⟨W6.heap.size, 0, none⟩ = some (.int .i64 a0_0) ∧ w'.cell? ⟨W6.heap.size, 1, none⟩ = some (.slice A6_0 la0_1 c6_0) ∧ w'.cell? ⟨w.heap.size + 1, 0, none⟩ = some (.int .i64 a1_0) ∧ w'.cell? ⟨w.heap.size + 1, 1, none⟩ = some (.int .i64 a1_1) ∧ w'.cell? ⟨w.heap.size + 1, 2, none⟩ = some (.int .i64 a1_2)) (first | ((refine ⟨?_, ?_, ?_, ?_, ?_⟩ <;> (repeat (first | (with_reducible assumption) | (with_reducible refine keepA ?_) | (with_reducible refine keepD ?_) | ((with_reducible refine keep1 ?_ ?_); rotate_left 1; omega) | (simp; done)))); done) | go_keep) (first | (go_at_call 11; refine (toDitch_x _ _ _ _ ).mono ?_; rintro e7 W7 ⟨rfl, b7⟩; obtain ⟨k7, f7⟩ := bcell b7; (have s7 : W6.heap.size + 1 ≤ W7.heap.size := by have := b7.size; (try simp at this); omega); (have d7 : Below W6.heap.size W6 W7 := (by repeat (first | assumption | exact Below.refl _ _ | (refine Below.trans ?_ (b7.mono (by first | omega | (simp; done) | (simp; omega)))) | (refine Below.setCell ?_ (by first | omega | (simp; done) | (simp; omega)) _) | apply below_drewN | apply Below.drew | (refine Below.alloc ?_ (by first | omega | (simp; done) | (simp; omega)) _)))); (have D7 : Below w.heap.size w W7 := Below.trans D6 (d7.mono (by omega))); (have y7_2_0 : W7.cell? ⟨w.heap.size, 0, none⟩ = some (.int .i64 a0_0) := (d7.cell (p := ⟨w.heap.size, 0, none⟩) (show w.heap.size < W6.heap.size by omega)).trans y6_2_0); (have y7_2_1 : W7.cell? ⟨w.heap.size, 1, none⟩ = some (.slice a0_1 la0_1 ca0_1) := (d7.cell (p := ⟨w.heap.size, 1, none⟩) (show w.heap.size < W6.heap.size by omega)).trans y6_2_1); (have n7_2 : w.heap.size < W7.heap.size := by omega); (have y7_3_0 : W7.cell? ⟨w.heap.size + 1, 0, none⟩ = some (.int .i64 a1_0) := (d7.cell (p := ⟨w.heap.size + 1, 0, none⟩) (show w.heap.size + 1 < W6.heap.size by omega)).trans y6_3_0); (have y7_3_1 : W7.cell? ⟨w.heap.size + 1, 1, none⟩ = some (.int .i64 a1_1) := (d7.cell (p := ⟨w.heap.size + 1, 1, none⟩) (show w.heap.size + 1 < W6.heap.size by omega)).trans y6_3_1); (have y7_3_2 : W7.cell? ⟨w.heap.size + 1, 2, none⟩ = some (.int .i64 a1_2) := (d7.cell (p := ⟨w.heap.size + 1, 2, none⟩) (show w.heap.size + 1 < W6.heap.size by omega)).trans y6_3_2); (have n7_3 : w.heap.size + 1 < W7.heap.size := by omega); (have y7_6_0 : W7.cell? ⟨g5, 0, none⟩ = some (.int .i64 (r0_AddDitch a0_0 xa0_1 a1_0 a1_1 a1_2)) := (d7.cell (p := ⟨g5, 0, none⟩) (show g5 < W6.heap.size by omega)).trans y6_6_0); (have y7_6_1 : W7.cell? ⟨g5, 1, none⟩ = some (.slice A4_0 (r1_AddDitch a0_0 xa0_1 a1_0 a1_1 a1_2).length c4_0) := (d7.cell (p := ⟨g5, 1, none⟩) (show g5 < W6.heap.size by omega)).trans y6_6_1); (have n7_6 : g5 < W7.heap.size := by omega); (have y7_8_0 : W7.cell? ⟨W6.heap.size, 0, none⟩ = some (.int .i64 a0_0) := by rw [k7 _ _ (by first | omega | (simp; done) | (simp; omega))]; first | (simp; done) | go_simp); (have y7_8_1 : W7.cell? ⟨W6.heap.size, 1, none⟩ = some (.slice A6_0 la0_1 c6_0) := by rw [k7 _ _ (by first | omega | (simp; done) | (simp; omega))]; first | (simp; done) | go_simp); (have n7_8 : W6.heap.size < W7.heap.size := by omega); (have q7_a0_1 : Rd_Ditch W7 w.heap.size a0_1 la0_1 xa0_1 := q6_a0_1.below (d7.mono (by omega))); (have q7_A4_0 : Wr_Ditch W7 lo5 A4_0 (r1_AddDitch a0_0 xa0_1 a1_0 a1_1 a1_2).length (r1_AddDitch a0_0 xa0_1 a1_0 a1_1 a1_2) := q6_A4_0.below d7); (have q7_A6_0 : Wr_Ditch W7 (W5.heap.size + 0) A6_0 la0_1 xa0_1 := q6_A6_0.below d7); clear y6_2_0 y6_2_1 n6_2 y6_3_0 y6_3_1 y6_3_2 n6_3 y6_6_0 y6_6_1 n6_6; (try have v7_0 : W6.heap.size < W7.heap.size := (by have := b7.size; (try simp at this); omega)); (try have v7_0_1 : W6.heap.size + 1 < W7.heap.size := (by have := b7.size; (try simp at this); omega)); (have x7_0 : ¬ W6.heap.size = W7.heap.size := (by omega)); (have x7_0' : ¬ W7.heap.size = W6.heap.size := (by omega)); (have x7_1 : ¬ w.heap.size + 1 = W7.heap.size := (by omega)); (have x7_1' : ¬ W7.heap.size = w.heap.size + 1 := (by omega))) | (go_at_call 12; refine (implC_AddDitch _ _ _ _ xa0_1 _ _ _ _ ha0_0 ha0_1 (Rd_Ditch.mono ((q7_A6_0.rd).below (by repeat (first | assumption | exact Below.refl _ _ | (refine Below.setCell ?_ (by first | omega | (simp; done) | (simp; omega)) _) | apply below_drewN | apply Below.drew | (refine Below.alloc ?_ (by first | omega | (simp; done) | (simp; omega)) _)))) (by first | omega | (simp; done) | (simp; omega))) fa0_1 ha1_0 ha1_1 ha1_2).mono ?_; rintro e8 W8 ⟨A8_0, c8_0, rfl, b8, p8_0⟩; obtain ⟨k8, f8⟩ := bcell b8; (have s8 : W7.heap.size + 0 ≤ W8.heap.size := by have := b8.size; (try simp at this); omega); (have d8 : Below W7.heap.size W7 W8 := (by repeat (first | assumption | exact Below.refl _ _ | (refine Below.trans ?_ (b8.mono (by first | omega | (simp; done) | (simp; omega)))) | (refine Below.setCell ?_ (by first | omega | (simp; done) | (simp; omega)) _) | apply below_drewN | apply Below.drew | (refine Below.alloc ?_ (by first | omega | (simp; done) | (simp; omega)) _)))); (have D8 : Below w.heap.size w W8 := Below.trans D7 (d8.mono (by omega))); (have y8_2_0 : W8.cell? ⟨w.heap.size, 0, none⟩ = some (.int .i64 a0_0) := (d8.cell (p := ⟨w.heap.size, 0, none⟩) (show w.heap.size < W7.heap.size by omega)).trans y7_2_0); (have y8_2_1 : W8.cell? ⟨w.heap.size, 1, none⟩ = some (.slice a0_1 la0_1 ca0_1) := (d8.cell (p := ⟨w.heap.size, 1, none⟩) (show w.heap.size < W7.heap.size by omega)).trans y7_2_1); (have n8_2 : w.heap.size < W8.heap.size := by omega); (have y8_3_0 : W8.cell? ⟨w.heap.size + 1, 0, none⟩ = some (.int .i64 a1_0) := (d8.cell (p := ⟨w.heap.size + 1, 0, none⟩) (show w.heap.size + 1 < W7.heap.size by omega)).trans y7_3_0); (have y8_3_1 : W8.cell? ⟨w.heap.size + 1, 1, none⟩ = some (.int .i64 a1_1) := (d8.cell (p := ⟨w.heap.size + 1, 1, none⟩) (show w.heap.size + 1 < W7.heap.size by omega)).trans y7_3_1); (have y8_3_2 : W8.cell? ⟨w.heap.size + 1, 2, none⟩ = some (.int .i64 a1_2) := (d8.cell (p := ⟨w.heap.size + 1, 2, none⟩) (show w.heap.size + 1 < W7.heap.size by omega)).trans y7_3_2); (have n8_3 : w.heap.size + 1 < W8.heap.size := by omega); (have y8_6_0 : W8.cell? ⟨g5, 0, none⟩ = some (.int .i64 (r0_AddDitch a0_0 xa0_1 a1_0 a1_1 a1_2)) := (d8.cell (p := ⟨g5, 0, none⟩) (show g5 < W7.heap.size by omega)).trans y7_6_0); (have y8_6_1 : W8.cell? ⟨g5, 1, none⟩ = some (.slice A4_0 (r1_AddDitch a0_0 xa0_1 a1_0 a1_1 a1_2).length c4_0) := (d8.cell (p := ⟨g5, 1, none⟩) (show g5 < W7.heap.size by omega)).trans y7_6_1); (have n8_6 : g5 < W8.heap.size := by omega); (have y8_8_0 : W8.cell? ⟨W6.heap.size, 0, none⟩ = some (.int .i64 a0_0) := (d8.cell (p := ⟨W6.heap.size, 0, none⟩) (show W6.heap.size < W7.heap.size by omega)).trans y7_8_0); (have y8_8_1 : W8.cell? ⟨W6.heap.size, 1, none⟩ = some (.slice A6_0 la0_1 c6_0) := (d8.cell (p := ⟨W6.heap.size, 1, none⟩) (show W6.heap.size < W7.heap.size by omega)).trans y7_8_1); (have n8_8 : W6.heap.size < W8.heap.size := by omega); (have q8_a0_1 : Rd_Ditch W8 w.heap.size a0_1 la0_1 xa0_1 := q7_a0_1.below (d8.mono (by omega))); (have q8_A4_0 : Wr_Ditch W8 lo5 A4_0 (r1_AddDitch a0_0 xa0_1 a1_0 a1_1 a1_2).length (r1_AddDitch a0_0 xa0_1 a1_0 a1_1 a1_2) := q7_A4_0.below d8); (have q8_A6_0 : Wr_Ditch W8 (W5.heap.size + 0) A6_0 la0_1 xa0_1 := q7_A6_0.below d8); clear y7_2_0 y7_2_1 n7_2 y7_3_0 y7_3_1 y7_3_2 n7_3 y7_6_0 y7_6_1 n7_6 y7_8_0 y7_8_1 n7_8; (have q8_A8_0 : Wr_Ditch W8 (W7.heap.size + 0) A8_0 (r1_AddDitch a0_0 xa0_1 a1_0 a1_1 a1_2).length (r1_AddDitch a0_0 xa0_1 a1_0 a1_1 a1_2) := p8_0.lower (by first | omega | (simp; done) | (simp; omega))); (have t8_0 := q8_A8_0.lt); (try have v8_0 : W6.heap.size < W8.heap.size := (by have := b8.size; (try simp at this); omega)); (try have v8_1 : W7.heap.size < W8.heap.size := (by have := b8.size; (try simp at this); omega)); (try have v8_0_1 : W6.heap.size + 1 < W8.heap.size := (by have := b8.size; (try simp at this); omega)); (have x8_0 : ¬ W6.heap.size = W8.heap.size := (by omega)); (have x8_0' : ¬ W8.heap.size = W6.heap.size := (by omega)); (have x8_1 : ¬ w.heap.size + 1 = W8.heap.size := (by omega)); (have x8_1' : ¬ W8.heap.size = w.heap.size + 1 := (by omega))))
    all_goals (go_wp2_with fail; go_meet; first | (have ho : Out W8 ((W8.setCell ⟨W6.heap.size + 1, 0, none⟩ (.int .i64 (r0_AddDitch a0_0 xa0_1 a1_0 a1_1 a1_2))).setCell ⟨W6.heap.size + 1, 1, none⟩ (.slice A8_0 (r1_AddDitch a0_0 xa0_1 a1_0 a1_1 a1_2).length c8_0)) (W6.heap.size + 1) [(.int .i64 (r0_AddDitch a0_0 xa0_1 a1_0 a1_1 a1_2)), (.slice A8_0 (r1_AddDitch a0_0 xa0_1 a1_0 a1_1 a1_2).length c8_0)] := Out.put W8 (W6.heap.size + 1) [(.int .i64 (r0_AddDitch a0_0 xa0_1 a1_0 a1_1 a1_2)), (.slice A8_0 (r1_AddDitch a0_0 xa0_1 a1_0 a1_1 a1_2).length c8_0)] (by first | omega | (simp; done) | (simp; omega)) (fun i hi => match i, hi with | 0, _ => ⟨.int .i64 0, ((b8.cell (p := ⟨W6.heap.size + 1, 0, none⟩) (by first | omega | (simp; done) | (simp; omega))).trans ((b7.cell (p := ⟨W6.heap.size + 1, 0, none⟩) (by first | omega | (simp; done) | (simp; omega))).trans (by first | (simp; done) | go_simp)))⟩ | 1, _ => ⟨.slice none 0 0, ((b8.cell (p := ⟨W6.heap.size + 1, 1, none⟩) (by first | omega | (simp; done) | (simp; omega))).trans ((b7.cell (p := ⟨W6.heap.size + 1, 1, none⟩) (by first | omega | (simp; done) | (simp; omega))).trans (by first | (simp; done) | go_simp)))⟩ | n + 2, h => absurd h (by simp)); exact ⟨((W8.setCell ⟨W6.heap.size + 1, 0, none⟩ (.int .i64 (r0_AddDitch a0_0 xa0_1 a1_0 a1_1 a1_2))).setCell ⟨W6.heap.size + 1, 1, none⟩ (.slice A8_0 (r1_AddDitch a0_0 xa0_1 a1_0 a1_1 a1_2).length c8_0)), W6.heap.size + 1, A8_0, c8_0, W7.heap.size, W8.heap.size, rfl, rfl, rfl, (by first | omega | (simp; done) | (simp; omega)), ho.lt, ho.lt, (D8.trans (ho.below (by first | omega | (simp; done) | (simp; omega)) (by first | omega | (simp; done) | (simp; omega)))), (by have := ho.size; omega), ((ho.other 0 (by first | omega | (simp; done) | (simp; omega)) (by first | omega | (simp; done) | (simp; omega))).trans y8_2_0), ((ho.other 1 (by first | omega | (simp; done) | (simp; omega)) (by first | omega | (simp; done) | (simp; omega))).trans y8_2_1), (by have := ho.size; omega), ((ho.other 0 (by first | omega | (simp; done) | (simp; omega)) (by first | omega | (simp; done) | (simp; omega))).trans y8_3_0), ((ho.other 1 (by first | omega | (simp; done) | (simp; omega)) (by first | omega | (simp; done) | (simp; omega))).trans y8_3_1), ((ho.other 2 (by first | omega | (simp; done) | (simp; omega)) (by first | omega | (simp; done) | (simp; omega))).trans y8_3_2), (by have := ho.size; omega), ((ho.other 0 (by first | omega | (simp; done) | (simp; omega)) (by first | omega | (simp; done) | (simp; omega))).trans y8_6_0), ((ho.other 1 (by first | omega | (simp; done) | (simp; omega)) (by first | omega | (simp; done) | (simp; omega))).trans y8_6_1), (by have := ho.size; omega), ((ho.other 0 (by first | omega | (simp; done) | (simp; omega)) (by first | omega | (simp; done) | (simp; omega))).trans y8_8_0), ((ho.other 1 (by first | omega | (simp; done) | (simp; omega)) (by first | omega | (simp; done) | (simp; omega))).trans y8_8_1), (by have := ho.size; omega), (ho.at 0 rfl), (ho.at 1 rfl), (q8_a0_1.below (ho.below (by first | omega | (simp; done) | (simp; omega)) (by first | omega | (simp; done) | (simp; omega)))), (q8_A4_0.chg t5_A4_0 ho.chg (by first | omega | (simp; done) | (simp; omega))), (q8_A6_0.chg t6_0 ho.chg (by first | omega | (simp; done) | (simp; omega))), ((p8_0.chg p8_0.lt ho.chg (by first | omega | (simp; done) | (simp; omega))).lower (by first | omega | (simp; done) | (simp; omega))), p8_0.lt, (by first | omega | (simp; done) | (simp; omega)), (by have := ho.size; omega), (by first | omega | (simp; done) | (simp; omega))⟩) | (have ho : Out W8 ((W8.setCell ⟨W7.heap.size, 0, none⟩ (.int .i64 (r0_AddDitch a0_0 xa0_1 a1_0 a1_1 a1_2))).setCell ⟨W7.heap.size, 1, none⟩ (.slice A8_0 (r1_AddDitch a0_0 xa0_1 a1_0 a1_1 a1_2).length c8_0)) (W7.heap.size) [(.int .i64 (r0_AddDitch a0_0 xa0_1 a1_0 a1_1 a1_2)), (.slice A8_0 (r1_AddDitch a0_0 xa0_1 a1_0 a1_1 a1_2).length c8_0)] := Out.put W8 (W7.heap.size) [(.int .i64 (r0_AddDitch a0_0 xa0_1 a1_0 a1_1 a1_2)), (.slice A8_0 (r1_AddDitch a0_0 xa0_1 a1_0 a1_1 a1_2).length c8_0)] (by first | omega | (simp; done) | (simp; omega)) (fun i hi => match i, hi with | 0, _ => ⟨.int .i64 0, ((b8.cell (p := ⟨W7.heap.size, 0, none⟩) (by first | omega | (simp; done) | (simp; omega))).trans (by first | (simp; done) | go_simp))⟩ | 1, _ => ⟨.slice none 0 0, ((b8.cell (p := ⟨W7.heap.size, 1, none⟩) (by first | omega | (simp; done) | (simp; omega))).trans (by first | (simp; done) | go_simp))⟩ | n + 2, h => absurd h (by simp)); exact ⟨((W8.setCell ⟨W7.heap.size, 0, none⟩ (.int .i64 (r0_AddDitch a0_0 xa0_1 a1_0 a1_1 a1_2))).setCell ⟨W7.heap.size, 1, none⟩ (.slice A8_0 (r1_AddDitch a0_0 xa0_1 a1_0 a1_1 a1_2).length c8_0)), W7.heap.size, A8_0, c8_0, W7.heap.size + 1, W8.heap.size, rfl, rfl, rfl, (by first | omega | (simp; done) | (simp; omega)), ho.lt, ho.lt, (D8.trans (ho.below (by first | omega | (simp; done) | (simp; omega)) (by first | omega | (simp; done) | (simp; omega)))), (by have := ho.size; omega), ((ho.other 0 (by first | omega | (simp; done) | (simp; omega)) (by first | omega | (simp; done) | (simp; omega))).trans y8_2_0), ((ho.other 1 (by first | omega | (simp; done) | (simp; omega)) (by first | omega | (simp; done) | (simp; omega))).trans y8_2_1), (by have := ho.size; omega), ((ho.other 0 (by first | omega | (simp; done) | (simp; omega)) (by first | omega | (simp; done) | (simp; omega))).trans y8_3_0), ((ho.other 1 (by first | omega | (simp; done) | (simp; omega)) (by first | omega | (simp; done) | (simp; omega))).trans y8_3_1), ((ho.other 2 (by first | omega | (simp; done) | (simp; omega)) (by first | omega | (simp; done) | (simp; omega))).trans y8_3_2), (by have := ho.size; omega), ((ho.other 0 (by first | omega | (simp; done) | (simp; omega)) (by first | omega | (simp; done) | (simp; omega))).trans y8_6_0), ((ho.other 1 (by first | omega | (simp; done) | (simp; omega)) (by first | omega | (simp; done) | (simp; omega))).trans y8_6_1), (by have := ho.size; omega), ((ho.other 0 (by first | omega | (simp; done) | (simp; omega)) (by first | omega | (simp; done) | (simp; omega))).trans y8_8_0), ((ho.other 1 (by first | omega | (simp; done) | (simp; omega)) (by first | omega | (simp; done) | (simp; omega))).trans y8_8_1), (by have := ho.size; omega), (ho.at 0 rfl), (ho.at 1 rfl), (q8_a0_1.below (ho.below (by first | omega | (simp; done) | (simp; omega)) (by first | omega | (simp; done) | (simp; omega)))), (q8_A4_0.chg t5_A4_0 ho.chg (by first | omega | (simp; done) | (simp; omega))), (q8_A6_0.chg t6_0 ho.chg (by first | omega | (simp; done) | (simp; omega))), ((p8_0.chg p8_0.lt ho.chg (by first | omega | (simp; done) | (simp; omega))).lower (by first | omega | (simp; done) | (simp; omega))), p8_0.lt, (by first | omega | (simp; done) | (simp; omega)), (by have := ho.size; omega), (by first | omega | (simp; done) | (simp; omega))⟩) | (have ho : Out W8 (W8.alloc (.cells #[(.int .i64 (r0_AddDitch a0_0 xa0_1 a1_0 a1_1 a1_2)), (.slice A8_0 (r1_AddDitch a0_0 xa0_1 a1_0 a1_1 a1_2).length c8_0)] 30)) (W8.heap.size) [(.int .i64 (r0_AddDitch a0_0 xa0_1 a1_0 a1_1 a1_2)), (.slice A8_0 (r1_AddDitch a0_0 xa0_1 a1_0 a1_1 a1_2).length c8_0)] := Out.new W8 [(.int .i64 (r0_AddDitch a0_0 xa0_1 a1_0 a1_1 a1_2)), (.slice A8_0 (r1_AddDitch a0_0 xa0_1 a1_0 a1_1 a1_2).length c8_0)] 30; exact ⟨(W8.alloc (.cells #[(.int .i64 (r0_AddDitch a0_0 xa0_1 a1_0 a1_1 a1_2)), (.slice A8_0 (r1_AddDitch a0_0 xa0_1 a1_0 a1_1 a1_2).length c8_0)] 30)), W8.heap.size, A8_0, c8_0, W7.heap.size, W8.heap.size, rfl, rfl, rfl, (by first | omega | (simp; done) | (simp; omega)), ho.lt, ho.lt, (D8.trans (ho.below (by first | omega | (simp; done) | (simp; omega)) (by first | omega | (simp; done) | (simp; omega)))), (by have := ho.size; omega), ((ho.other 0 (by first | omega | (simp; done) | (simp; omega)) (by first | omega | (simp; done) | (simp; omega))).trans y8_2_0), ((ho.other 1 (by first | omega | (simp; done) | (simp; omega)) (by first | omega | (simp; done) | (simp; omega))).trans y8_2_1), (by have := ho.size; omega), ((ho.other 0 (by first | omega | (simp; done) | (simp; omega)) (by first | omega | (simp; done) | (simp; omega))).trans y8_3_0), ((ho.other 1 (by first | omega | (simp; done) | (simp; omega)) (by first | omega | (simp; done) | (simp; omega))).trans y8_3_1), ((ho.other 2 (by first | omega | (simp; done) | (simp; omega)) (by first | omega | (simp; done) | (simp; omega))).trans y8_3_2), (by have := ho.size; omega), ((ho.other 0 (by first | omega | (simp; done) | (simp; omega)) (by first | omega | (simp; done) | (simp; omega))).trans y8_6_0), ((ho.other 1 (by first | omega | (simp; done) | (simp; omega)) (by first | omega | (simp; done) | (simp; omega))).trans y8_6_1), (by have := ho.size; omega), ((ho.other 0 (by first | omega | (simp; done) | (simp; omega)) (by first | omega | (simp; done) | (simp; omega))).trans y8_8_0), ((ho.other 1 (by first | omega | (simp; done) | (simp; omega)) (by first | omega | (simp; done) | (simp; omega))).trans y8_8_1), (by have := ho.size; omega), (ho.at 0 rfl), (ho.at 1 rfl), (q8_a0_1.below (ho.below (by first | omega | (simp; done) | (simp; omega)) (by first | omega | (simp; done) | (simp; omega)))), (q8_A4_0.chg t5_A4_0 ho.chg (by first | omega | (simp; done) | (simp; omega))), (q8_A6_0.chg t6_0 ho.chg (by first | omega | (simp; done) | (simp; omega))), ((p8_0.chg p8_0.lt ho.chg (by first | omega | (simp; done) | (simp; omega))).lower (by first | omega | (simp; done) | (simp; omega))), p8_0.lt, (by first | omega | (simp; done) | (simp; omega)), (by have := ho.size; omega), (by first | omega | (simp; done) | (simp; omega))⟩))
  case rest =>
  obtain ⟨W9, g7, A8_0, c8_0, lo7, hi7, rfl, rfl, rfl, hg7a, hg7b, n9_9, D9, s9, y9_2_0, y9_2_1, n9_2, y9_3_0, y9_3_1, y9_3_2, n9_3, y9_6_0, y9_6_1, n9_6, y9_8_0, y9_8_1, n9_8, y9_9_0, y9_9_1, q9_a0_1, q9_A4_0, q9_A6_0, q9_A8_0, t9_A8_0, hl7a, hl7b, hl7c⟩ := hcut
  skip
  try clear b1
  try clear d1
  try clear D1
  try clear y1_2_0
  try clear y1_2_1
  try clear n1_2
  try clear y1_3_0
  try clear y1_3_1
  try clear y1_3_2
  try clear n1_3
  try clear q1_a0_1
  try clear x5_0
  try clear x5_0'
  try clear x5_1
  try clear x5_1'
  try clear d2
  try clear D2
  try clear y2_2_0
  try clear y2_2_1
  try clear n2_2
  try clear y2_3_0
  try clear y2_3_1
  try clear y2_3_2
  try clear n2_3
  try clear q2_a0_1
  try clear q2_A2_0
  try clear v2_0
  try clear x2_0
  try clear x2_0'
  try clear x2_1
  try clear x2_1'
  try clear d3
  try clear D3
  try clear y3_2_0
  try clear y3_2_1
  try clear n3_2
  try clear y3_3_0
  try clear y3_3_1
  try clear y3_3_2
  try clear n3_3
  try clear q3_a0_1
  try clear q3_A2_0
  try clear v3_0
  try clear v3_1
  try clear x3_0
  try clear x3_0'
  try clear x3_1
  try clear x3_1'
  try clear d4
  try clear D4
  try clear y4_2_0
  try clear y4_2_1
  try clear n4_2
  try clear y4_3_0
  try clear y4_3_1
  try clear y4_3_2
  try clear n4_3
  try clear q4_a0_1
  try clear q4_A4_0
  try clear v4_0
  try clear v4_1
  try clear v4_2
  try clear x4_0
  try clear x4_0'
  try clear x4_1
  try clear x4_1'
  try clear b3
  try clear b2
  try clear b4
  try clear p2_0
  try clear p4_0
  try clear n5_6
  try clear D5
  try clear y5_2_0
  try clear y5_2_1
  try clear n5_2
  try clear y5_3_0
  try clear y5_3_1
  try clear y5_3_2
  try clear n5_3
  try clear y5_6_0
  try clear y5_6_1
  try clear q5_a0_1
  try clear q5_A4_0
  try clear b6
  try clear p6_0
  try clear d6
  try clear D6
  try clear y6_2_0
  try clear y6_2_1
  try clear n6_2
  try clear y6_3_0
  try clear y6_3_1
  try clear y6_3_2
  try clear n6_3
  try clear y6_6_0
  try clear y6_6_1
  try clear n6_6
  try clear q6_a0_1
  try clear q6_A4_0
  try clear q6_A6_0
  try clear x7_0
  try clear x7_0'
  try clear x7_1
  try clear x7_1'
  try clear d7
  try clear D7
  try clear y7_2_0
  try clear y7_2_1
  try clear n7_2
  try clear y7_3_0
  try clear y7_3_1
  try clear y7_3_2
  try clear n7_3
  try clear y7_6_0
  try clear y7_6_1
  try clear n7_6
  try clear y7_8_0
  try clear y7_8_1
  try clear n7_8
  try clear q7_a0_1
  try clear q7_A4_0
  try clear q7_A6_0
  try clear v7_0
  try clear v7_0_1
  try clear d8
  try clear D8
  try clear y8_2_0
  try clear y8_2_1
  try clear n8_2
  try clear y8_3_0
  try clear y8_3_1
  try clear y8_3_2
  try clear n8_3
  try clear y8_6_0
  try clear y8_6_1
  try clear n8_6
  try clear y8_8_0
  try clear y8_8_1
  try clear n8_8
  try clear q8_a0_1
  try clear q8_A4_0
  try clear q8_A6_0
  try clear q8_A8_0
  try clear v8_0
  try clear v8_1
  try clear v8_0_1
  try clear x8_0
  try clear x8_0'
  try clear x8_1
  try clear x8_1'
  try clear b7
  try clear b8
  try clear p8_0
  go_wp2_with fail
  refine (eqNet_x _ _ _ _ _ _ (r1_AddDitch a0_0 xa0_1 a1_0 a1_1 a1_2) _ hl_r1_AddDitch (Rd_Ditch.mono ((q9_A8_0.rd).below (by repeat (first | assumption | exact Below.refl _ _ | (refine Below.setCell ?_ (by first | omega | (simp; done) | (simp; omega)) _) | apply below_drewN | apply Below.drew | (refine Below.alloc ?_ (by first | omega | (simp; done) | (simp; omega)) _)))) (by first | omega | (simp; done) | (simp; omega))) (Rd_Ditch.mono ((q9_A4_0.rd).below (by repeat (first | assumption | exact Below.refl _ _ | (refine Below.setCell ?_ (by first | omega | (simp; done) | (simp; omega)) _) | apply below_drewN | apply Below.drew | (refine Below.alloc ?_ (by first | omega | (simp; done) | (simp; omega)) _)))) (by first | omega | (simp; done) | (simp; omega)))).mono ?_
  rintro e10 W10 ⟨rfl, b10⟩
  obtain ⟨k10, _⟩ := bcell b10
  have s10 : W9.heap.size + 0 ≤ W10.heap.size := by have := b10.size; (try simp at this); omega
  have d10 : Below W9.heap.size W9 W10 := (by repeat (first | assumption | exact Below.refl _ _ | (refine Below.trans ?_ (b10.mono (by first | omega | (simp; done) | (simp; omega)))) | (refine Below.setCell ?_ (by first | omega | (simp; done) | (simp; omega)) _) | apply below_drewN | apply Below.drew | (refine Below.alloc ?_ (by first | omega | (simp; done) | (simp; omega)) _)))
  have D10 : Below w.heap.size w W10 := Below.trans D9 (d10.mono (by omega))
  have y10_2_0 : W10.cell? ⟨w.heap.size, 0, none⟩ = some (.int .i64 a0_0) := (d10.cell (p := ⟨w.heap.size, 0, none⟩) (show w.heap.size < W9.heap.size by omega)).trans y9_2_0
  have y10_2_1 : W10.cell? ⟨w.heap.size, 1, none⟩ = some (.slice a0_1 la0_1 ca0_1) := (d10.cell (p := ⟨w.heap.size, 1, none⟩) (show w.heap.size < W9.heap.size by omega)).trans y9_2_1
  have n10_2 : w.heap.size < W10.heap.size := by omega
  have y10_3_0 : W10.cell? ⟨w.heap.size + 1, 0, none⟩ = some (.int .i64 a1_0) := (d10.cell (p := ⟨w.heap.size + 1, 0, none⟩) (show w.heap.size + 1 < W9.heap.size by omega)).trans y9_3_0
  have y10_3_1 : W10.cell? ⟨w.heap.size + 1, 1, none⟩ = some (.int .i64 a1_1) := (d10.cell (p := ⟨w.heap.size + 1, 1, none⟩) (show w.heap.size + 1 < W9.heap.size by omega)).trans y9_3_1
  have y10_3_2 : W10.cell? ⟨w.heap.size + 1, 2, none⟩ = some (.int .i64 a1_2) := (d10.cell (p := ⟨w.heap.size + 1, 2, none⟩) (show w.heap.size + 1 < W9.heap.size by omega)).trans y9_3_2
  have n10_3 : w.heap.size + 1 < W10.heap.size := by omega
  have y10_6_0 : W10.cell? ⟨g5, 0, none⟩ = some (.int .i64 (r0_AddDitch a0_0 xa0_1 a1_0 a1_1 a1_2)) := (d10.cell (p := ⟨g5, 0, none⟩) (show g5 < W9.heap.size by omega)).trans y9_6_0
  have y10_6_1 : W10.cell? ⟨g5, 1, none⟩ = some (.slice A4_0 (r1_AddDitch a0_0 xa0_1 a1_0 a1_1 a1_2).length c4_0) := (d10.cell (p := ⟨g5, 1, none⟩) (show g5 < W9.heap.size by omega)).trans y9_6_1
  have n10_6 : g5 < W10.heap.size := by omega
  have y10_8_0 : W10.cell? ⟨W6.heap.size, 0, none⟩ = some (.int .i64 a0_0) := (d10.cell (p := ⟨W6.heap.size, 0, none⟩) (show W6.heap.size < W9.heap.size by omega)).trans y9_8_0
  have y10_8_1 : W10.cell? ⟨W6.heap.size, 1, none⟩ = some (.slice A6_0 la0_1 c6_0) := (d10.cell (p := ⟨W6.heap.size, 1, none⟩) (show W6.heap.size < W9.heap.size by omega)).trans y9_8_1
  have n10_8 : W6.heap.size < W10.heap.size := by omega
  have y10_9_0 : W10.cell? ⟨g7, 0, none⟩ = some (.int .i64 (r0_AddDitch a0_0 xa0_1 a1_0 a1_1 a1_2)) := (d10.cell (p := ⟨g7, 0, none⟩) (show g7 < W9.heap.size by omega)).trans y9_9_0
  have y10_9_1 : W10.cell? ⟨g7, 1, none⟩ = some (.slice A8_0 (r1_AddDitch a0_0 xa0_1 a1_0 a1_1 a1_2).length c8_0) := (d10.cell (p := ⟨g7, 1, none⟩) (show g7 < W9.heap.size by omega)).trans y9_9_1
  have n10_9 : g7 < W10.heap.size := by omega
  have q10_a0_1 : Rd_Ditch W10 w.heap.size a0_1 la0_1 xa0_1 := q9_a0_1.below (d10.mono (by omega))
  have q10_A4_0 : Wr_Ditch W10 lo5 A4_0 (r1_AddDitch a0_0 xa0_1 a1_0 a1_1 a1_2).length (r1_AddDitch a0_0 xa0_1 a1_0 a1_1 a1_2) := q9_A4_0.below d10
  have q10_A6_0 : Wr_Ditch W10 (W5.heap.size + 0) A6_0 la0_1 xa0_1 := q9_A6_0.below d10
  have q10_A8_0 : Wr_Ditch W10 lo7 A8_0 (r1_AddDitch a0_0 xa0_1 a1_0 a1_1 a1_2).length (r1_AddDitch a0_0 xa0_1 a1_0 a1_1 a1_2) := q9_A8_0.below d10
  clear k10 y9_2_0 y9_2_1 n9_2 y9_3_0 y9_3_1 y9_3_2 n9_3 y9_6_0 y9_6_1 n9_6 y9_8_0 y9_8_1 n9_8 y9_9_0 y9_9_1 n9_9
  go_wp2_with fail
  go_region_held3 (fun w' => w'.cell? ⟨W6.heap.size, 0, none⟩ = some (.int .i64 a0_0) ∧ w'.cell? ⟨W6.heap.size, 1, none⟩ = some (.slice A6_0 la0_1 c6_0) ∧ w'.cell? ⟨w.heap.size, 0, none⟩ = some (.int .i64 a0_0) ∧ w'.cell? ⟨w.heap.size, 1, none⟩ = some (.slice a0_1 la0_1 ca0_1)) (go_keep) (first | (go_at_call 10; refine (toNet_x _ _ _ _ xa0_1 _ ha0_1 (Rd_Ditch.mono (q10_a0_1.below (by repeat (first | assumption | exact Below.refl _ _ | (refine Below.setCell ?_ (by first | omega | (simp; done) | (simp; omega)) _) | apply below_drewN | apply Below.drew | (refine Below.alloc ?_ (by first | omega | (simp; done) | (simp; omega)) _)))) (by first | omega | (simp; done) | (simp; omega)))).mono ?_; rintro e11 W11 ⟨A11_0, c11_0, rfl, b11, p11_0⟩; obtain ⟨k11, _⟩ := bcell b11; (have s11 : W10.heap.size + 0 ≤ W11.heap.size := by have := b11.size; (try simp at this); omega); (have d11 : Below W10.heap.size W10 W11 := (by repeat (first | assumption | exact Below.refl _ _ | (refine Below.trans ?_ (b11.mono (by first | omega | (simp; done) | (simp; omega)))) | (refine Below.setCell ?_ (by first | omega | (simp; done) | (simp; omega)) _) | apply below_drewN | apply Below.drew | (refine Below.alloc ?_ (by first | omega | (simp; done) | (simp; omega)) _)))); (have D11 : Below w.heap.size w W11 := Below.trans D10 (d11.mono (by omega))); (have y11_2_0 : W11.cell? ⟨w.heap.size, 0, none⟩ = some (.int .i64 a0_0) := (d11.cell (p := ⟨w.heap.size, 0, none⟩) (show w.heap.size < W10.heap.size by omega)).trans y10_2_0); (have y11_2_1 : W11.cell? ⟨w.heap.size, 1, none⟩ = some (.slice a0_1 la0_1 ca0_1) := (d11.cell (p := ⟨w.heap.size, 1, none⟩) (show w.heap.size < W10.heap.size by omega)).trans y10_2_1); (have n11_2 : w.heap.size < W11.heap.size := by omega); (have y11_3_0 : W11.cell? ⟨w.heap.size + 1, 0, none⟩ = some (.int .i64 a1_0) := (d11.cell (p := ⟨w.heap.size + 1, 0, none⟩) (show w.heap.size + 1 < W10.heap.size by omega)).trans y10_3_0); (have y11_3_1 : W11.cell? ⟨w.heap.size + 1, 1, none⟩ = some (.int .i64 a1_1) := (d11.cell (p := ⟨w.heap.size + 1, 1, none⟩) (show w.heap.size + 1 < W10.heap.size by omega)).trans y10_3_1); (have y11_3_2 : W11.cell? ⟨w.heap.size + 1, 2, none⟩ = some (.int .i64 a1_2) := (d11.cell (p := ⟨w.heap.size + 1, 2, none⟩) (show w.heap.size + 1 < W10.heap.size by omega)).trans y10_3_2); (have n11_3 : w.heap.size + 1 < W11.heap.size := by omega); (have y11_6_0 : W11.cell? ⟨g5, 0, none⟩ = some (.int .i64 (r0_AddDitch a0_0 xa0_1 a1_0 a1_1 a1_2)) := (d11.cell (p := ⟨g5, 0, none⟩) (show g5 < W10.heap.size by omega)).trans y10_6_0); (have y11_6_1 : W11.cell? ⟨g5, 1, none⟩ = some (.slice A4_0 (r1_AddDitch a0_0 xa0_1 a1_0 a1_1 a1_2).length c4_0) := (d11.cell (p := ⟨g5, 1, none⟩) (show g5 < W10.heap.size by omega)).trans y10_6_1); (have n11_6 : g5 < W11.heap.size := by omega); (have y11_8_0 : W11.cell? ⟨W6.heap.size, 0, none⟩ = some (.int .i64 a0_0) := (d11.cell (p := ⟨W6.heap.size, 0, none⟩) (show W6.heap.size < W10.heap.size by omega)).trans y10_8_0); (have y11_8_1 : W11.cell? ⟨W6.heap.size, 1, none⟩ = some (.slice A6_0 la0_1 c6_0) := (d11.cell (p := ⟨W6.heap.size, 1, none⟩) (show W6.heap.size < W10.heap.size by omega)).trans y10_8_1); (have n11_8 : W6.heap.size < W11.heap.size := by omega); (have y11_9_0 : W11.cell? ⟨g7, 0, none⟩ = some (.int .i64 (r0_AddDitch a0_0 xa0_1 a1_0 a1_1 a1_2)) := (d11.cell (p := ⟨g7, 0, none⟩) (show g7 < W10.heap.size by omega)).trans y10_9_0); (have y11_9_1 : W11.cell? ⟨g7, 1, none⟩ = some (.slice A8_0 (r1_AddDitch a0_0 xa0_1 a1_0 a1_1 a1_2).length c8_0) := (d11.cell (p := ⟨g7, 1, none⟩) (show g7 < W10.heap.size by omega)).trans y10_9_1); (have n11_9 : g7 < W11.heap.size := by omega); (have q11_a0_1 : Rd_Ditch W11 w.heap.size a0_1 la0_1 xa0_1 := q10_a0_1.below (d11.mono (by omega))); (have q11_A4_0 : Wr_Ditch W11 lo5 A4_0 (r1_AddDitch a0_0 xa0_1 a1_0 a1_1 a1_2).length (r1_AddDitch a0_0 xa0_1 a1_0 a1_1 a1_2) := q10_A4_0.below d11); (have q11_A6_0 : Wr_Ditch W11 (W5.heap.size + 0) A6_0 la0_1 xa0_1 := q10_A6_0.below d11); (have q11_A8_0 : Wr_Ditch W11 lo7 A8_0 (r1_AddDitch a0_0 xa0_1 a1_0 a1_1 a1_2).length (r1_AddDitch a0_0 xa0_1 a1_0 a1_1 a1_2) := q10_A8_0.below d11); clear k11 y10_2_0 y10_2_1 n10_2 y10_3_0 y10_3_1 y10_3_2 n10_3 y10_6_0 y10_6_1 n10_6 y10_8_0 y10_8_1 n10_8 y10_9_0 y10_9_1 n10_9; (have q11_A11_0 : Wr_Ditch W11 (W10.heap.size + 0) A11_0 la0_1 xa0_1 := p11_0.lower (by first | omega | (simp; done) | (simp; omega))); (have t11_0 := q11_A11_0.lt)) | (go_at_call 13; refine (eqNet_x _ _ _ _ _ _ xa0_1 _ ha0_1 (Rd_Ditch.mono ((q11_A6_0.rd).below (by repeat (first | assumption | exact Below.refl _ _ | (refine Below.setCell ?_ (by first | omega | (simp; done) | (simp; omega)) _) | apply below_drewN | apply Below.drew | (refine Below.alloc ?_ (by first | omega | (simp; done) | (simp; omega)) _)))) (by first | omega | (simp; done) | (simp; omega))) (Rd_Ditch.mono ((q11_A11_0.rd).below (by repeat (first | assumption | exact Below.refl _ _ | (refine Below.setCell ?_ (by first | omega | (simp; done) | (simp; omega)) _) | apply below_drewN | apply Below.drew | (refine Below.alloc ?_ (by first | omega | (simp; done) | (simp; omega)) _)))) (by first | omega | (simp; done) | (simp; omega)))).mono ?_; rintro e12 W12 ⟨rfl, b12⟩; obtain ⟨k12, _⟩ := bcell b12; (have s12 : W11.heap.size + 0 ≤ W12.heap.size := by have := b12.size; (try simp at this); omega); (have d12 : Below W11.heap.size W11 W12 := (by repeat (first | assumption | exact Below.refl _ _ | (refine Below.trans ?_ (b12.mono (by first | omega | (simp; done) | (simp; omega)))) | (refine Below.setCell ?_ (by first | omega | (simp; done) | (simp; omega)) _) | apply below_drewN | apply Below.drew | (refine Below.alloc ?_ (by first | omega | (simp; done) | (simp; omega)) _)))); (have D12 : Below w.heap.size w W12 := Below.trans D11 (d12.mono (by omega))); (have y12_2_0 : W12.cell? ⟨w.heap.size, 0, none⟩ = some (.int .i64 a0_0) := (d12.cell (p := ⟨w.heap.size, 0, none⟩) (show w.heap.size < W11.heap.size by omega)).trans y11_2_0); (have y12_2_1 : W12.cell? ⟨w.heap.size, 1, none⟩ = some (.slice a0_1 la0_1 ca0_1) := (d12.cell (p := ⟨w.heap.size, 1, none⟩) (show w.heap.size < W11.heap.size by omega)).trans y11_2_1); (have n12_2 : w.heap.size < W12.heap.size := by omega); (have y12_3_0 : W12.cell? ⟨w.heap.size + 1, 0, none⟩ = some (.int .i64 a1_0) := (d12.cell (p := ⟨w.heap.size + 1, 0, none⟩) (show w.heap.size + 1 < W11.heap.size by omega)).trans y11_3_0); (have y12_3_1 : W12.cell? ⟨w.heap.size + 1, 1, none⟩ = some (.int .i64 a1_1) := (d12.cell (p := ⟨w.heap.size + 1, 1, none⟩) (show w.heap.size + 1 < W11.heap.size by omega)).trans y11_3_1); (have y12_3_2 : W12.cell? ⟨w.heap.size + 1, 2, none⟩ = some (.int .i64 a1_2) := (d12.cell (p := ⟨w.heap.size + 1, 2, none⟩) (show w.heap.size + 1 < W11.heap.size by omega)).trans y11_3_2); (have n12_3 : w.heap.size + 1 < W12.heap.size := by omega); (have y12_6_0 : W12.cell? ⟨g5, 0, none⟩ = some (.int .i64 (r0_AddDitch a0_0 xa0_1 a1_0 a1_1 a1_2)) := (d12.cell (p := ⟨g5, 0, none⟩) (show g5 < W11.heap.size by omega)).trans y11_6_0); (have y12_6_1 : W12.cell? ⟨g5, 1, none⟩ = some (.slice A4_0 (r1_AddDitch a0_0 xa0_1 a1_0 a1_1 a1_2).length c4_0) := (d12.cell (p := ⟨g5, 1, none⟩) (show g5 < W11.heap.size by omega)).trans y11_6_1); (have n12_6 : g5 < W12.heap.size := by omega); (have y12_8_0 : W12.cell? ⟨W6.heap.size, 0, none⟩ = some (.int .i64 a0_0) := (d12.cell (p := ⟨W6.heap.size, 0, none⟩) (show W6.heap.size < W11.heap.size by omega)).trans y11_8_0); (have y12_8_1 : W12.cell? ⟨W6.heap.size, 1, none⟩ = some (.slice A6_0 la0_1 c6_0) := (d12.cell (p := ⟨W6.heap.size, 1, none⟩) (show W6.heap.size < W11.heap.size by omega)).trans y11_8_1); (have n12_8 : W6.heap.size < W12.heap.size := by omega); (have y12_9_0 : W12.cell? ⟨g7, 0, none⟩ = some (.int .i64 (r0_AddDitch a0_0 xa0_1 a1_0 a1_1 a1_2)) := (d12.cell (p := ⟨g7, 0, none⟩) (show g7 < W11.heap.size by omega)).trans y11_9_0); (have y12_9_1 : W12.cell? ⟨g7, 1, none⟩ = some (.slice A8_0 (r1_AddDitch a0_0 xa0_1 a1_0 a1_1 a1_2).length c8_0) := (d12.cell (p := ⟨g7, 1, none⟩) (show g7 < W11.heap.size by omega)).trans y11_9_1); (have n12_9 : g7 < W12.heap.size := by omega); (have q12_a0_1 : Rd_Ditch W12 w.heap.size a0_1 la0_1 xa0_1 := q11_a0_1.below (d12.mono (by omega))); (have q12_A4_0 : Wr_Ditch W12 lo5 A4_0 (r1_AddDitch a0_0 xa0_1 a1_0 a1_1 a1_2).length (r1_AddDitch a0_0 xa0_1 a1_0 a1_1 a1_2) := q11_A4_0.below d12); (have q12_A6_0 : Wr_Ditch W12 (W5.heap.size + 0) A6_0 la0_1 xa0_1 := q11_A6_0.below d12); (have q12_A8_0 : Wr_Ditch W12 lo7 A8_0 (r1_AddDitch a0_0 xa0_1 a1_0 a1_1 a1_2).length (r1_AddDitch a0_0 xa0_1 a1_0 a1_1 a1_2) := q11_A8_0.below d12); clear k12 y11_2_0 y11_2_1 n11_2 y11_3_0 y11_3_1 y11_3_2 n11_3 y11_6_0 y11_6_1 n11_6 y11_8_0 y11_8_1 n11_8 y11_9_0 y11_9_1 n11_9))
  go_wp2_with fail
  refine (markNet_x (W5.heap.size + 0) W6.heap.size _ _ _ _ xa0_1 _ _  (by omega) (by omega) (by first | omega | (simp; done) | (simp; omega)) ha0_1 (q12_A6_0.below (by repeat (first | assumption | exact Below.refl _ _ | (refine Below.setCell ?_ (by first | omega | (simp; done) | (simp; omega)) _) | apply below_drewN | apply Below.drew | (refine Below.alloc ?_ (by first | omega | (simp; done) | (simp; omega)) _)))) t6_0).mono ?_
  rintro e13 W13 ⟨rfl, b13, z13_0⟩
  have s13 : W12.heap.size + 0 ≤ W13.heap.size := by have := b13.size; (try simp at this); omega
  have d13 : Chg (W5.heap.size + 0) W6.heap.size W12 W13 := Chg.trans' (by repeat (first | assumption | exact Below.refl _ _ | (refine Below.setCell ?_ (by first | omega | (simp; done) | (simp; omega)) _) | apply below_drewN | apply Below.drew | (refine Below.alloc ?_ (by first | omega | (simp; done) | (simp; omega)) _))) b13
  have D13 : Below w.heap.size w W13 := Below.trans D12 (d13.below (by omega) (by omega))
  have y13_2_0 : W13.cell? ⟨w.heap.size, 0, none⟩ = some (.int .i64 a0_0) := (d13.cell (by omega) (by omega)).trans y12_2_0
  have y13_2_1 : W13.cell? ⟨w.heap.size, 1, none⟩ = some (.slice a0_1 la0_1 ca0_1) := (d13.cell (by omega) (by omega)).trans y12_2_1
  have n13_2 : w.heap.size < W13.heap.size := by omega
  have y13_3_0 : W13.cell? ⟨w.heap.size + 1, 0, none⟩ = some (.int .i64 a1_0) := (d13.cell (by omega) (by omega)).trans y12_3_0
  have y13_3_1 : W13.cell? ⟨w.heap.size + 1, 1, none⟩ = some (.int .i64 a1_1) := (d13.cell (by omega) (by omega)).trans y12_3_1
  have y13_3_2 : W13.cell? ⟨w.heap.size + 1, 2, none⟩ = some (.int .i64 a1_2) := (d13.cell (by omega) (by omega)).trans y12_3_2
  have n13_3 : w.heap.size + 1 < W13.heap.size := by omega
  have y13_6_0 : W13.cell? ⟨g5, 0, none⟩ = some (.int .i64 (r0_AddDitch a0_0 xa0_1 a1_0 a1_1 a1_2)) := (d13.cell (by omega) (by omega)).trans y12_6_0
  have y13_6_1 : W13.cell? ⟨g5, 1, none⟩ = some (.slice A4_0 (r1_AddDitch a0_0 xa0_1 a1_0 a1_1 a1_2).length c4_0) := (d13.cell (by omega) (by omega)).trans y12_6_1
  have n13_6 : g5 < W13.heap.size := by omega
  have y13_9_0 : W13.cell? ⟨g7, 0, none⟩ = some (.int .i64 (r0_AddDitch a0_0 xa0_1 a1_0 a1_1 a1_2)) := (d13.cell (by omega) (by omega)).trans y12_9_0
  have y13_9_1 : W13.cell? ⟨g7, 1, none⟩ = some (.slice A8_0 (r1_AddDitch a0_0 xa0_1 a1_0 a1_1 a1_2).length c8_0) := (d13.cell (by omega) (by omega)).trans y12_9_1
  have n13_9 : g7 < W13.heap.size := by omega
  have q13_a0_1 : Rd_Ditch W13 w.heap.size a0_1 la0_1 xa0_1 := q12_a0_1.below (d13.below (by omega) (by omega))
  have q13_A4_0 : Wr_Ditch W13 lo5 A4_0 (r1_AddDitch a0_0 xa0_1 a1_0 a1_1 a1_2).length (r1_AddDitch a0_0 xa0_1 a1_0 a1_1 a1_2) := q12_A4_0.chg t5_A4_0 d13 (by omega)
  have q13_A8_0 : Wr_Ditch W13 lo7 A8_0 (r1_AddDitch a0_0 xa0_1 a1_0 a1_1 a1_2).length (r1_AddDitch a0_0 xa0_1 a1_0 a1_1 a1_2) := q12_A8_0.chg t9_A8_0 d13 (by omega)
  clear y12_2_0 y12_2_1 n12_2 y12_3_0 y12_3_1 y12_3_2 n12_3 y12_6_0 y12_6_1 n12_6 y12_8_0 y12_8_1 y12_9_0 y12_9_1 n12_9
  go_wp2_with fail
  refine (eqNet_x _ _ _ _ _ _ (r1_AddDitch a0_0 xa0_1 a1_0 a1_1 a1_2) _ hl_r1_AddDitch (Rd_Ditch.mono ((q13_A8_0.rd).below (by repeat (first | assumption | exact Below.refl _ _ | (refine Below.setCell ?_ (by first | omega | (simp; done) | (simp; omega)) _) | apply below_drewN | apply Below.drew | (refine Below.alloc ?_ (by first | omega | (simp; done) | (simp; omega)) _)))) (by first | omega | (simp; done) | (simp; omega))) (Rd_Ditch.mono ((q13_A4_0.rd).below (by repeat (first | assumption | exact Below.refl _ _ | (refine Below.setCell ?_ (by first | omega | (simp; done) | (simp; omega)) _) | apply below_drewN | apply Below.drew | (refine Below.alloc ?_ (by first | omega | (simp; done) | (simp; omega)) _)))) (by first | omega | (simp; done) | (simp; omega)))).mono ?_
  rintro e14 W14 ⟨rfl, b14⟩
  obtain ⟨k14, _⟩ := bcell b14
  have s14 : W13.heap.size + 0 ≤ W14.heap.size := by have := b14.size; (try simp at this); omega
  have d14 : Below W13.heap.size W13 W14 := (by repeat (first | assumption | exact Below.refl _ _ | (refine Below.trans ?_ (b14.mono (by first | omega | (simp; done) | (simp; omega)))) | (refine Below.setCell ?_ (by first | omega | (simp; done) | (simp; omega)) _) | apply below_drewN | apply Below.drew | (refine Below.alloc ?_ (by first | omega | (simp; done) | (simp; omega)) _)))
  have D14 : Below w.heap.size w W14 := Below.trans D13 (d14.mono (by omega))
  have y14_2_0 : W14.cell? ⟨w.heap.size, 0, none⟩ = some (.int .i64 a0_0) := (d14.cell (p := ⟨w.heap.size, 0, none⟩) (show w.heap.size < W13.heap.size by omega)).trans y13_2_0
  have y14_2_1 : W14.cell? ⟨w.heap.size, 1, none⟩ = some (.slice a0_1 la0_1 ca0_1) := (d14.cell (p := ⟨w.heap.size, 1, none⟩) (show w.heap.size < W13.heap.size by omega)).trans y13_2_1
  have n14_2 : w.heap.size < W14.heap.size := by omega
  have y14_3_0 : W14.cell? ⟨w.heap.size + 1, 0, none⟩ = some (.int .i64 a1_0) := (d14.cell (p := ⟨w.heap.size + 1, 0, none⟩) (show w.heap.size + 1 < W13.heap.size by omega)).trans y13_3_0
  have y14_3_1 : W14.cell? ⟨w.heap.size + 1, 1, none⟩ = some (.int .i64 a1_1) := (d14.cell (p := ⟨w.heap.size + 1, 1, none⟩) (show w.heap.size + 1 < W13.heap.size by omega)).trans y13_3_1
  have y14_3_2 : W14.cell? ⟨w.heap.size + 1, 2, none⟩ = some (.int .i64 a1_2) := (d14.cell (p := ⟨w.heap.size + 1, 2, none⟩) (show w.heap.size + 1 < W13.heap.size by omega)).trans y13_3_2
  have n14_3 : w.heap.size + 1 < W14.heap.size := by omega
  have y14_6_0 : W14.cell? ⟨g5, 0, none⟩ = some (.int .i64 (r0_AddDitch a0_0 xa0_1 a1_0 a1_1 a1_2)) := (d14.cell (p := ⟨g5, 0, none⟩) (show g5 < W13.heap.size by omega)).trans y13_6_0
  have y14_6_1 : W14.cell? ⟨g5, 1, none⟩ = some (.slice A4_0 (r1_AddDitch a0_0 xa0_1 a1_0 a1_1 a1_2).length c4_0) := (d14.cell (p := ⟨g5, 1, none⟩) (show g5 < W13.heap.size by omega)).trans y13_6_1
  have n14_6 : g5 < W14.heap.size := by omega
  have y14_9_0 : W14.cell? ⟨g7, 0, none⟩ = some (.int .i64 (r0_AddDitch a0_0 xa0_1 a1_0 a1_1 a1_2)) := (d14.cell (p := ⟨g7, 0, none⟩) (show g7 < W13.heap.size by omega)).trans y13_9_0
  have y14_9_1 : W14.cell? ⟨g7, 1, none⟩ = some (.slice A8_0 (r1_AddDitch a0_0 xa0_1 a1_0 a1_1 a1_2).length c8_0) := (d14.cell (p := ⟨g7, 1, none⟩) (show g7 < W13.heap.size by omega)).trans y13_9_1
  have n14_9 : g7 < W14.heap.size := by omega
  have q14_a0_1 : Rd_Ditch W14 w.heap.size a0_1 la0_1 xa0_1 := q13_a0_1.below (d14.mono (by omega))
  have q14_A4_0 : Wr_Ditch W14 lo5 A4_0 (r1_AddDitch a0_0 xa0_1 a1_0 a1_1 a1_2).length (r1_AddDitch a0_0 xa0_1 a1_0 a1_1 a1_2) := q13_A4_0.below d14
  have q14_A8_0 : Wr_Ditch W14 lo7 A8_0 (r1_AddDitch a0_0 xa0_1 a1_0 a1_1 a1_2).length (r1_AddDitch a0_0 xa0_1 a1_0 a1_1 a1_2) := q13_A8_0.below d14
  clear k14 y13_2_0 y13_2_1 n13_2 y13_3_0 y13_3_1 y13_3_2 n13_3 y13_6_0 y13_6_1 n13_6 y13_9_0 y13_9_1 n13_9
  go_wp2_with fail
  refine (markNet_x lo7 hi7 _ _ _ _ (r1_AddDitch a0_0 xa0_1 a1_0 a1_1 a1_2) _ _  (by omega) (by omega) (by first | omega | (simp; done) | (simp; omega)) hl_r1_AddDitch (q14_A8_0.below (by repeat (first | assumption | exact Below.refl _ _ | (refine Below.setCell ?_ (by first | omega | (simp; done) | (simp; omega)) _) | apply below_drewN | apply Below.drew | (refine Below.alloc ?_ (by first | omega | (simp; done) | (simp; omega)) _)))) t9_A8_0).mono ?_
  rintro e15 W15 ⟨rfl, b15, z15_0⟩
  have s15 : W14.heap.size + 0 ≤ W15.heap.size := by have := b15.size; (try simp at this); omega
  have d15 : Chg lo7 hi7 W14 W15 := Chg.trans' (by repeat (first | assumption | exact Below.refl _ _ | (refine Below.setCell ?_ (by first | omega | (simp; done) | (simp; omega)) _) | apply below_drewN | apply Below.drew | (refine Below.alloc ?_ (by first | omega | (simp; done) | (simp; omega)) _))) b15
  have D15 : Below w.heap.size w W15 := Below.trans D14 (d15.below (by omega) (by omega))
  have y15_2_0 : W15.cell? ⟨w.heap.size, 0, none⟩ = some (.int .i64 a0_0) := (d15.cell (by omega) (by omega)).trans y14_2_0
  have y15_2_1 : W15.cell? ⟨w.heap.size, 1, none⟩ = some (.slice a0_1 la0_1 ca0_1) := (d15.cell (by omega) (by omega)).trans y14_2_1
  have n15_2 : w.heap.size < W15.heap.size := by omega
  have y15_3_0 : W15.cell? ⟨w.heap.size + 1, 0, none⟩ = some (.int .i64 a1_0) := (d15.cell (by omega) (by omega)).trans y14_3_0
  have y15_3_1 : W15.cell? ⟨w.heap.size + 1, 1, none⟩ = some (.int .i64 a1_1) := (d15.cell (by omega) (by omega)).trans y14_3_1
  have y15_3_2 : W15.cell? ⟨w.heap.size + 1, 2, none⟩ = some (.int .i64 a1_2) := (d15.cell (by omega) (by omega)).trans y14_3_2
  have n15_3 : w.heap.size + 1 < W15.heap.size := by omega
  have y15_6_0 : W15.cell? ⟨g5, 0, none⟩ = some (.int .i64 (r0_AddDitch a0_0 xa0_1 a1_0 a1_1 a1_2)) := (d15.cell (by omega) (by omega)).trans y14_6_0
  have y15_6_1 : W15.cell? ⟨g5, 1, none⟩ = some (.slice A4_0 (r1_AddDitch a0_0 xa0_1 a1_0 a1_1 a1_2).length c4_0) := (d15.cell (by omega) (by omega)).trans y14_6_1
  have n15_6 : g5 < W15.heap.size := by omega
  have y15_9_0 : W15.cell? ⟨g7, 0, none⟩ = some (.int .i64 (r0_AddDitch a0_0 xa0_1 a1_0 a1_1 a1_2)) := (d15.cell (by omega) (by omega)).trans y14_9_0
  have y15_9_1 : W15.cell? ⟨g7, 1, none⟩ = some (.slice A8_0 (r1_AddDitch a0_0 xa0_1 a1_0 a1_1 a1_2).length c8_0) := (d15.cell (by omega) (by omega)).trans y14_9_1
  have n15_9 : g7 < W15.heap.size := by omega
  have q15_a0_1 : Rd_Ditch W15 w.heap.size a0_1 la0_1 xa0_1 := q14_a0_1.below (d15.below (by omega) (by omega))
  have q15_A4_0 : Wr_Ditch W15 lo5 A4_0 (r1_AddDitch a0_0 xa0_1 a1_0 a1_1 a1_2).length (r1_AddDitch a0_0 xa0_1 a1_0 a1_1 a1_2) := q14_A4_0.chg t5_A4_0 d15 (by omega)
  clear y14_2_0 y14_2_1 n14_2 y14_3_0 y14_3_1 y14_3_2 n14_3 y14_6_0 y14_6_1 n14_6 y14_9_0 y14_9_1 n14_9
  go_wp2_with fail
  refine (heldNet_x _ _ _ _ _ _ (by omega) (by omega) hl_r1_AddDitch (Rd_Ditch.mono ((z15_0.rd).below (by repeat (first | assumption | exact Below.refl _ _ | (refine Below.setCell ?_ (by first | omega | (simp; done) | (simp; omega)) _) | apply below_drewN | apply Below.drew | (refine Below.alloc ?_ (by first | omega | (simp; done) | (simp; omega)) _)))) (by first | omega | (simp; done) | (simp; omega)))).mono ?_
  rintro e16 W16 ⟨rfl, b16⟩
  obtain ⟨k16, _⟩ := bcell b16
  have s16 : W15.heap.size + 0 ≤ W16.heap.size := by have := b16.size; (try simp at this); omega
  have d16 : Below W15.heap.size W15 W16 := (by repeat (first | assumption | exact Below.refl _ _ | (refine Below.trans ?_ (b16.mono (by first | omega | (simp; done) | (simp; omega)))) | (refine Below.setCell ?_ (by first | omega | (simp; done) | (simp; omega)) _) | apply below_drewN | apply Below.drew | (refine Below.alloc ?_ (by first | omega | (simp; done) | (simp; omega)) _)))
  have D16 : Below w.heap.size w W16 := Below.trans D15 (d16.mono (by omega))
  have y16_2_0 : W16.cell? ⟨w.heap.size, 0, none⟩ = some (.int .i64 a0_0) := (d16.cell (p := ⟨w.heap.size, 0, none⟩) (show w.heap.size < W15.heap.size by omega)).trans y15_2_0
  have y16_2_1 : W16.cell? ⟨w.heap.size, 1, none⟩ = some (.slice a0_1 la0_1 ca0_1) := (d16.cell (p := ⟨w.heap.size, 1, none⟩) (show w.heap.size < W15.heap.size by omega)).trans y15_2_1
  have n16_2 : w.heap.size < W16.heap.size := by omega
  have y16_3_0 : W16.cell? ⟨w.heap.size + 1, 0, none⟩ = some (.int .i64 a1_0) := (d16.cell (p := ⟨w.heap.size + 1, 0, none⟩) (show w.heap.size + 1 < W15.heap.size by omega)).trans y15_3_0
  have y16_3_1 : W16.cell? ⟨w.heap.size + 1, 1, none⟩ = some (.int .i64 a1_1) := (d16.cell (p := ⟨w.heap.size + 1, 1, none⟩) (show w.heap.size + 1 < W15.heap.size by omega)).trans y15_3_1
  have y16_3_2 : W16.cell? ⟨w.heap.size + 1, 2, none⟩ = some (.int .i64 a1_2) := (d16.cell (p := ⟨w.heap.size + 1, 2, none⟩) (show w.heap.size + 1 < W15.heap.size by omega)).trans y15_3_2
  have n16_3 : w.heap.size + 1 < W16.heap.size := by omega
  have y16_6_0 : W16.cell? ⟨g5, 0, none⟩ = some (.int .i64 (r0_AddDitch a0_0 xa0_1 a1_0 a1_1 a1_2)) := (d16.cell (p := ⟨g5, 0, none⟩) (show g5 < W15.heap.size by omega)).trans y15_6_0
  have y16_6_1 : W16.cell? ⟨g5, 1, none⟩ = some (.slice A4_0 (r1_AddDitch a0_0 xa0_1 a1_0 a1_1 a1_2).length c4_0) := (d16.cell (p := ⟨g5, 1, none⟩) (show g5 < W15.heap.size by omega)).trans y15_6_1
  have n16_6 : g5 < W16.heap.size := by omega
  have y16_9_0 : W16.cell? ⟨g7, 0, none⟩ = some (.int .i64 (r0_AddDitch a0_0 xa0_1 a1_0 a1_1 a1_2)) := (d16.cell (p := ⟨g7, 0, none⟩) (show g7 < W15.heap.size by omega)).trans y15_9_0
  have y16_9_1 : W16.cell? ⟨g7, 1, none⟩ = some (.slice A8_0 (r1_AddDitch a0_0 xa0_1 a1_0 a1_1 a1_2).length c8_0) := (d16.cell (p := ⟨g7, 1, none⟩) (show g7 < W15.heap.size by omega)).trans y15_9_1
  have n16_9 : g7 < W16.heap.size := by omega
  have q16_a0_1 : Rd_Ditch W16 w.heap.size a0_1 la0_1 xa0_1 := q15_a0_1.below (d16.mono (by omega))
  have q16_A4_0 : Wr_Ditch W16 lo5 A4_0 (r1_AddDitch a0_0 xa0_1 a1_0 a1_1 a1_2).length (r1_AddDitch a0_0 xa0_1 a1_0 a1_1 a1_2) := q15_A4_0.below d16
  have q16_A8_0 : Wr_Ditch W16 lo7 A8_0 (r1_AddDitch a0_0 xa0_1 a1_0 a1_1 a1_2).length (marks_Ditch (1) (r1_AddDitch a0_0 xa0_1 a1_0 a1_1 a1_2).length) := z15_0.below d16
  clear k16 y15_2_0 y15_2_1 n15_2 y15_3_0 y15_3_1 y15_3_2 n15_3 y15_6_0 y15_6_1 n15_6 y15_9_0 y15_9_1 n15_9
  have x24_0 : ¬ w.heap.size = W16.heap.size := by omega
  have x24_0' : ¬ W16.heap.size = w.heap.size := by omega
  have x24_1 : ¬ w.heap.size + 1 = W16.heap.size := by omega
  have x24_1' : ¬ W16.heap.size = w.heap.size + 1 := by omega
  go_upto_region 24 with fail
  go_cut [14, 15] (fun s14 s15 W20' => ∃ (W20 : World) (g24 : Nat) (A19_0 : Option Addr) (c19_0 : Nat) (lo24 hi24 : Nat), W20 = W20' ∧ s14 = .pointer (some ⟨g24, 0, none⟩) ∧ s15 = .int .i64 (r2_AddDitch a0_0 xa0_1 a1_0 a1_1 a1_2) ∧ W16.heap.size ≤ g24 ∧ g24 < W20.heap.size ∧ g24 < W20.heap.size ∧ Below w.heap.size w W20 ∧ W16.heap.size + 0 ≤ W20.heap.size ∧ W20.cell? ⟨g5, 0, none⟩ = some (.int .i64 (r0_AddDitch a0_0 xa0_1 a1_0 a1_1 a1_2)) ∧ W20.cell? ⟨g5, 1, none⟩ = some (.slice A4_0 (r1_AddDitch a0_0 xa0_1 a1_0 a1_1 a1_2).length c4_0) ∧ g5 < W20.heap.size ∧ W20.cell? ⟨g7, 0, none⟩ = some (.int .i64 (r0_AddDitch a0_0 xa0_1 a1_0 a1_1 a1_2)) ∧ W20.cell? ⟨g7, 1, none⟩ = some (.slice A8_0 (r1_AddDitch a0_0 xa0_1 a1_0 a1_1 a1_2).length c8_0) ∧ g7 < W20.heap.size ∧ W20.cell? ⟨g24, 0, none⟩ = some (.int .i64 (r0_AddDitch a0_0 xa0_1 a1_0 a1_1 a1_2)) ∧ W20.cell? ⟨g24, 1, none⟩ = some (.slice A19_0 (r1_AddDitch a0_0 xa0_1 a1_0 a1_1 a1_2).length c19_0) ∧ Wr_Ditch W20 lo5 A4_0 (r1_AddDitch a0_0 xa0_1 a1_0 a1_1 a1_2).length (r1_AddDitch a0_0 xa0_1 a1_0 a1_1 a1_2) ∧ Wr_Ditch W20 lo7 A8_0 (r1_AddDitch a0_0 xa0_1 a1_0 a1_1 a1_2).length (marks_Ditch (1) (r1_AddDitch a0_0 xa0_1 a1_0 a1_1 a1_2).length) ∧ Wr_Ditch W20 lo24 A19_0 (r1_AddDitch a0_0 xa0_1 a1_0 a1_1 a1_2).length (r1_AddDitch a0_0 xa0_1 a1_0 a1_1 a1_2) ∧ Lt hi24 A19_0 (r1_AddDitch a0_0 xa0_1 a1_0 a1_1 a1_2).length ∧ W16.heap.size ≤ lo24 ∧ hi24 ≤ W20.heap.size ∧ (g24 < lo24 ∨ hi24 ≤ g24))
  case first =>
    go_region_held3 (fun w' => w'.cell? ⟨w.heap.size, 0, none⟩ = some (.int .i64 a0_0) ∧ w'.cell? ⟨w.heap.size, 1, none⟩ = some (.slice a0_1 la0_1 ca0_1) ∧ w'.cell? ⟨w.heap.size + 1, 0, none⟩ = some (.int .i64 a1_0) ∧ w'.cell? ⟨w.heap.size + 1, 1, none⟩ = some (.int .i64 a1_1) ∧ w'.cell? ⟨w.heap.size + 1, 2, none⟩ = some (.int .i64 a1_2)) (first | ((refine ⟨?_, ?_, ?_, ?_, ?_⟩ <;> (repeat (first | (with_reducible assumption) | (with_reducible refine keepA ?_) | (with_reducible refine keepD ?_) | ((with_reducible refine keep1 ?_ ?_); rotate_left 1; omega) | (simp; done)))); done) | go_keep) (first | (go_at_call 10; refine (toNet_x _ _ _ _ xa0_1 _ ha0_1 (Rd_Ditch.mono (q16_a0_1.below (by repeat (first | assumption | exact Below.refl _ _ | (refine Below.setCell ?_ (by first | omega | (simp; done) | (simp; omega)) _) | apply below_drewN | apply Below.drew | (refine Below.alloc ?_ (by first | omega | (simp; done) | (simp; omega)) _)))) (by first | omega | (simp; done) | (simp; omega)))).mono ?_; rintro e17 W17 ⟨A17_0, c17_0, rfl, b17, p17_0⟩; obtain ⟨k17, f17⟩ := bcell b17; (have s17 : W16.heap.size + 0 ≤ W17.heap.size := by have := b17.size; (try simp at this); omega); (have d17 : Below W16.heap.size W16 W17 := (by repeat (first | assumption | exact Below.refl _ _ | (refine Below.trans ?_ (b17.mono (by first | omega | (simp; done) | (simp; omega)))) | (refine Below.setCell ?_ (by first | omega | (simp; done) | (simp; omega)) _) | apply below_drewN | apply Below.drew | (refine Below.alloc ?_ (by first | omega | (simp; done) | (simp; omega)) _)))); (have D17 : Below w.heap.size w W17 := Below.trans D16 (d17.mono (by omega))); (have y17_2_0 : W17.cell? ⟨w.heap.size, 0, none⟩ = some (.int .i64 a0_0) := (d17.cell (p := ⟨w.heap.size, 0, none⟩) (show w.heap.size < W16.heap.size by omega)).trans y16_2_0); (have y17_2_1 : W17.cell? ⟨w.heap.size, 1, none⟩ = some (.slice a0_1 la0_1 ca0_1) := (d17.cell (p := ⟨w.heap.size, 1, none⟩) (show w.heap.size < W16.heap.size by omega)).trans y16_2_1); (have n17_2 : w.heap.size < W17.heap.size := by omega); (have y17_3_0 : W17.cell? ⟨w.heap.size + 1, 0, none⟩ = some (.int .i64 a1_0) := (d17.cell (p := ⟨w.heap.size + 1, 0, none⟩) (show w.heap.size + 1 < W16.heap.size by omega)).trans y16_3_0); (have y17_3_1 : W17.cell? ⟨w.heap.size + 1, 1, none⟩ = some (.int .i64 a1_1) := (d17.cell (p := ⟨w.heap.size + 1, 1, none⟩) (show w.heap.size + 1 < W16.heap.size by omega)).trans y16_3_1); (have y17_3_2 : W17.cell? ⟨w.heap.size + 1, 2, none⟩ = some (.int .i64 a1_2) := (d17.cell (p := ⟨w.heap.size + 1, 2, none⟩) (show w.heap.size + 1 < W16.heap.size by omega)).trans y16_3_2); (have n17_3 : w.heap.size + 1 < W17.heap.size := by omega); (have y17_6_0 : W17.cell? ⟨g5, 0, none⟩ = some (.int .i64 (r0_AddDitch a0_0 xa0_1 a1_0 a1_1 a1_2)) := (d17.cell (p := ⟨g5, 0, none⟩) (show g5 < W16.heap.size by omega)).trans y16_6_0); (have y17_6_1 : W17.cell? ⟨g5, 1, none⟩ = some (.slice A4_0 (r1_AddDitch a0_0 xa0_1 a1_0 a1_1 a1_2).length c4_0) := (d17.cell (p := ⟨g5, 1, none⟩) (show g5 < W16.heap.size by omega)).trans y16_6_1); (have n17_6 : g5 < W17.heap.size := by omega); (have y17_9_0 : W17.cell? ⟨g7, 0, none⟩ = some (.int .i64 (r0_AddDitch a0_0 xa0_1 a1_0 a1_1 a1_2)) := (d17.cell (p := ⟨g7, 0, none⟩) (show g7 < W16.heap.size by omega)).trans y16_9_0); (have y17_9_1 : W17.cell? ⟨g7, 1, none⟩ = some (.slice A8_0 (r1_AddDitch a0_0 xa0_1 a1_0 a1_1 a1_2).length c8_0) := (d17.cell (p := ⟨g7, 1, none⟩) (show g7 < W16.heap.size by omega)).trans y16_9_1); (have n17_9 : g7 < W17.heap.size := by omega); (have q17_A4_0 : Wr_Ditch W17 lo5 A4_0 (r1_AddDitch a0_0 xa0_1 a1_0 a1_1 a1_2).length (r1_AddDitch a0_0 xa0_1 a1_0 a1_1 a1_2) := q16_A4_0.below d17); (have q17_A8_0 : Wr_Ditch W17 lo7 A8_0 (r1_AddDitch a0_0 xa0_1 a1_0 a1_1 a1_2).length (marks_Ditch (1) (r1_AddDitch a0_0 xa0_1 a1_0 a1_1 a1_2).length) := q16_A8_0.below d17); clear y16_2_0 y16_2_1 n16_2 y16_3_0 y16_3_1 y16_3_2 n16_3 y16_6_0 y16_6_1 n16_6 y16_9_0 y16_9_1 n16_9; (have q17_A17_0 : Wr_Ditch W17 (W16.heap.size + 0) A17_0 la0_1 xa0_1 := p17_0.lower (by first | omega | (simp; done) | (simp; omega))); (have t17_0 := q17_A17_0.lt); (try have v17_0 : W16.heap.size < W17.heap.size := (by have := b17.size; (try simp at this); omega)); (have x17_0 : ¬ w.heap.size = W17.heap.size := (by omega)); (have x17_0' : ¬ W17.heap.size = w.heap.size := (by omega)); (have x17_1 : ¬ w.heap.size + 1 = W17.heap.size := (by omega)); (have x17_1' : ¬ W17.heap.size = w.heap.size + 1 := (by omega))) | (go_at_call 11; refine (toDitch_x _ _ _ _ ).mono ?_; rintro e18 W18 ⟨rfl, b18⟩; obtain ⟨k18, f18⟩ := bcell b18; (have s18 : W17.heap.size + 0 ≤ W18.heap.size := by have := b18.size; (try simp at this); omega); (have d18 : Below W17.heap.size W17 W18 := (by repeat (first | assumption | exact Below.refl _ _ | (refine Below.trans ?_ (b18.mono (by first | omega | (simp; done) | (simp; omega)))) | (refine Below.setCell ?_ (by first | omega | (simp; done) | (simp; omega)) _) | apply below_drewN | apply Below.drew | (refine Below.alloc ?_ (by first | omega | (simp; done) | (simp; omega)) _)))); (have D18 : Below w.heap.size w W18 := Below.trans D17 (d18.mono (by omega))); (have y18_2_0 : W18.cell? ⟨w.heap.size, 0, none⟩ = some (.int .i64 a0_0) := (d18.cell (p := ⟨w.heap.size, 0, none⟩) (show w.heap.size < W17.heap.size by omega)).trans y17_2_0); (have y18_2_1 : W18.cell? ⟨w.heap.size, 1, none⟩ = some (.slice a0_1 la0_1 ca0_1) := (d18.cell (p := ⟨w.heap.size, 1, none⟩) (show w.heap.size < W17.heap.size by omega)).trans y17_2_1); (have n18_2 : w.heap.size < W18.heap.size := by omega); (have y18_3_0 : W18.cell? ⟨w.heap.size + 1, 0, none⟩ = some (.int .i64 a1_0) := (d18.cell (p := ⟨w.heap.size + 1, 0, none⟩) (show w.heap.size + 1 < W17.heap.size by omega)).trans y17_3_0); (have y18_3_1 : W18.cell? ⟨w.heap.size + 1, 1, none⟩ = some (.int .i64 a1_1) := (d18.cell (p := ⟨w.heap.size + 1, 1, none⟩) (show w.heap.size + 1 < W17.heap.size by omega)).trans y17_3_1); (have y18_3_2 : W18.cell? ⟨w.heap.size + 1, 2, none⟩ = some (.int .i64 a1_2) := (d18.cell (p := ⟨w.heap.size + 1, 2, none⟩) (show w.heap.size + 1 < W17.heap.size by omega)).trans y17_3_2); (have n18_3 : w.heap.size + 1 < W18.heap.size := by omega); (have y18_6_0 : W18.cell? ⟨g5, 0, none⟩ = some (.int .i64 (r0_AddDitch a0_0 xa0_1 a1_0 a1_1 a1_2)) := (d18.cell (p := ⟨g5, 0, none⟩) (show g5 < W17.heap.size by omega)).trans y17_6_0); (have y18_6_1 : W18.cell? ⟨g5, 1, none⟩ = some (.slice A4_0 (r1_AddDitch a0_0 xa0_1 a1_0 a1_1 a1_2).length c4_0) := (d18.cell (p := ⟨g5, 1, none⟩) (show g5 < W17.heap.size by omega)).trans y17_6_1); (have n18_6 : g5 < W18.heap.size := by omega); (have y18_9_0 : W18.cell? ⟨g7, 0, none⟩ = some (.int .i64 (r0_AddDitch a0_0 xa0_1 a1_0 a1_1 a1_2)) := (d18.cell (p := ⟨g7, 0, none⟩) (show g7 < W17.heap.size by omega)).trans y17_9_0); (have y18_9_1 : W18.cell? ⟨g7, 1, none⟩ = some (.slice A8_0 (r1_AddDitch a0_0 xa0_1 a1_0 a1_1 a1_2).length c8_0) := (d18.cell (p := ⟨g7, 1, none⟩) (show g7 < W17.heap.size by omega)).trans y17_9_1); (have n18_9 : g7 < W18.heap.size := by omega); (have q18_A4_0 : Wr_Ditch W18 lo5 A4_0 (r1_AddDitch a0_0 xa0_1 a1_0 a1_1 a1_2).length (r1_AddDitch a0_0 xa0_1 a1_0 a1_1 a1_2) := q17_A4_0.below d18); (have q18_A8_0 : Wr_Ditch W18 lo7 A8_0 (r1_AddDitch a0_0 xa0_1 a1_0 a1_1 a1_2).length (marks_Ditch (1) (r1_AddDitch a0_0 xa0_1 a1_0 a1_1 a1_2).length) := q17_A8_0.below d18); (have q18_A17_0 : Wr_Ditch W18 (W16.heap.size + 0) A17_0 la0_1 xa0_1 := q17_A17_0.below d18); clear y17_2_0 y17_2_1 n17_2 y17_3_0 y17_3_1 y17_3_2 n17_3 y17_6_0 y17_6_1 n17_6 y17_9_0 y17_9_1 n17_9; (try have v18_0 : W16.heap.size < W18.heap.size := (by have := b18.size; (try simp at this); omega)); (try have v18_1 : W17.heap.size < W18.heap.size := (by have := b18.size; (try simp at this); omega)); (have x18_0 : ¬ w.heap.size = W18.heap.size := (by omega)); (have x18_0' : ¬ W18.heap.size = w.heap.size := (by omega)); (have x18_1 : ¬ w.heap.size + 1 = W18.heap.size := (by omega)); (have x18_1' : ¬ W18.heap.size = w.heap.size + 1 := (by omega))) | (go_at_call 12; refine (implC_AddDitch _ _ _ _ xa0_1 _ _ _ _ ha0_0 ha0_1 (Rd_Ditch.mono ((q18_A17_0.rd).below (by repeat (first | assumption | exact Below.refl _ _ | (refine Below.setCell ?_ (by first | omega | (simp; done) | (simp; omega)) _) | apply below_drewN | apply Below.drew | (refine Below.alloc ?_ (by first | omega | (simp; done) | (simp; omega)) _)))) (by first | omega | (simp; done) | (simp; omega))) fa0_1 ha1_0 ha1_1 ha1_2).mono ?_; rintro e19 W19 ⟨A19_0, c19_0, rfl, b19, p19_0⟩; obtain ⟨k19, f19⟩ := bcell b19; (have s19 : W18.heap.size + 0 ≤ W19.heap.size := by have := b19.size; (try simp at this); omega); (have d19 : Below W18.heap.size W18 W19 := (by repeat (first | assumption | exact Below.refl _ _ | (refine Below.trans ?_ (b19.mono (by first | omega | (simp; done) | (simp; omega)))) | (refine Below.setCell ?_ (by first | omega | (simp; done) | (simp; omega)) _) | apply below_drewN | apply Below.drew | (refine Below.alloc ?_ (by first | omega | (simp; done) | (simp; omega)) _)))); (have D19 : Below w.heap.size w W19 := Below.trans D18 (d19.mono (by omega))); (have y19_2_0 : W19.cell? ⟨w.heap.size, 0, none⟩ = some (.int .i64 a0_0) := (d19.cell (p := ⟨w.heap.size, 0, none⟩) (show w.heap.size < W18.heap.size by omega)).trans y18_2_0); (have y19_2_1 : W19.cell? ⟨w.heap.size, 1, none⟩ = some (.slice a0_1 la0_1 ca0_1) := (d19.cell (p := ⟨w.heap.size, 1, none⟩) (show w.heap.size < W18.heap.size by omega)).trans y18_2_1); (have n19_2 : w.heap.size < W19.heap.size := by omega); (have y19_3_0 : W19.cell? ⟨w.heap.size + 1, 0, none⟩ = some (.int .i64 a1_0) := (d19.cell (p := ⟨w.heap.size + 1, 0, none⟩) (show w.heap.size + 1 < W18.heap.size by omega)).trans y18_3_0); (have y19_3_1 : W19.cell? ⟨w.heap.size + 1, 1, none⟩ = some (.int .i64 a1_1) := (d19.cell (p := ⟨w.heap.size + 1, 1, none⟩) (show w.heap.size + 1 < W18.heap.size by omega)).trans y18_3_1); (have y19_3_2 : W19.cell? ⟨w.heap.size + 1, 2, none⟩ = some (.int .i64 a1_2) := (d19.cell (p := ⟨w.heap.size + 1, 2, none⟩) (show w.heap.size + 1 < W18.heap.size by omega)).trans y18_3_2); (have n19_3 : w.heap.size + 1 < W19.heap.size := by omega); (have y19_6_0 : W19.cell? ⟨g5, 0, none⟩ = some (.int .i64 (r0_AddDitch a0_0 xa0_1 a1_0 a1_1 a1_2)) := (d19.cell (p := ⟨g5, 0, none⟩) (show g5 < W18.heap.size by omega)).trans y18_6_0); (have y19_6_1 : W19.cell? ⟨g5, 1, none⟩ = some (.slice A4_0 (r1_AddDitch a0_0 xa0_1 a1_0 a1_1 a1_2).length c4_0) := (d19.cell (p := ⟨g5, 1, none⟩) (show g5 < W18.heap.size by omega)).trans y18_6_1); (have n19_6 : g5 < W19.heap.size := by omega); (have y19_9_0 : W19.cell? ⟨g7, 0, none⟩ = some (.int .i64 (r0_AddDitch a0_0 xa0_1 a1_0 a1_1 a1_2)) := (d19.cell (p := ⟨g7, 0, none⟩) (show g7 < W18.heap.size by omega)).trans y18_9_0); (have y19_9_1 : W19.cell? ⟨g7, 1, none⟩ = some (.slice A8_0 (r1_AddDitch a0_0 xa0_1 a1_0 a1_1 a1_2).length c8_0) := (d19.cell (p := ⟨g7, 1, none⟩) (show g7 < W18.heap.size by omega)).trans y18_9_1); (have n19_9 : g7 < W19.heap.size := by omega); (have q19_A4_0 : Wr_Ditch W19 lo5 A4_0 (r1_AddDitch a0_0 xa0_1 a1_0 a1_1 a1_2).length (r1_AddDitch a0_0 xa0_1 a1_0 a1_1 a1_2) := q18_A4_0.below d19); (have q19_A8_0 : Wr_Ditch W19 lo7 A8_0 (r1_AddDitch a0_0 xa0_1 a1_0 a1_1 a1_2).length (marks_Ditch (1) (r1_AddDitch a0_0 xa0_1 a1_0 a1_1 a1_2).length) := q18_A8_0.below d19); clear y18_2_0 y18_2_1 n18_2 y18_3_0 y18_3_1 y18_3_2 n18_3 y18_6_0 y18_6_1 n18_6 y18_9_0 y18_9_1 n18_9; (have q19_A19_0 : Wr_Ditch W19 (W18.heap.size + 0) A19_0 (r1_AddDitch a0_0 xa0_1 a1_0 a1_1 a1_2).length (r1_AddDitch a0_0 xa0_1 a1_0 a1_1 a1_2) := p19_0.lower (by first | omega | (simp; done) | (simp; omega))); (have t19_0 := q19_A19_0.lt); (try have v19_0 : W16.heap.size < W19.heap.size := (by have := b19.size; (try simp at this); omega)); (try have v19_1 : W17.heap.size < W19.heap.size := (by have := b19.size; (try simp at this); omega)); (try have v19_2 : W18.heap.size < W19.heap.size := (by have := b19.size; (try simp at this); omega)); (have x19_0 : ¬ w.heap.size = W19.heap.size := (by omega)); (have x19_0' : ¬ W19.heap.size = w.heap.size := (by omega)); (have x19_1 : ¬ w.heap.size + 1 = W19.heap.size := (by omega)); (have x19_1' : ¬ W19.heap.size = w.heap.size + 1 := (by omega))))
    all_goals (go_wp2_with fail; go_meet; first | (have ho : Out W19 ((W19.setCell ⟨W16.heap.size, 0, none⟩ (.int .i64 (r0_AddDitch a0_0 xa0_1 a1_0 a1_1 a1_2))).setCell ⟨W16.heap.size, 1, none⟩ (.slice A19_0 (r1_AddDitch a0_0 xa0_1 a1_0 a1_1 a1_2).length c19_0)) (W16.heap.size) [(.int .i64 (r0_AddDitch a0_0 xa0_1 a1_0 a1_1 a1_2)), (.slice A19_0 (r1_AddDitch a0_0 xa0_1 a1_0 a1_1 a1_2).length c19_0)] := Out.put W19 (W16.heap.size) [(.int .i64 (r0_AddDitch a0_0 xa0_1 a1_0 a1_1 a1_2)), (.slice A19_0 (r1_AddDitch a0_0 xa0_1 a1_0 a1_1 a1_2).length c19_0)] (by first | omega | (simp; done) | (simp; omega)) (fun i hi => match i, hi with | 0, _ => ⟨.int .i64 0, ((b19.cell (p := ⟨W16.heap.size, 0, none⟩) (by first | omega | (simp; done) | (simp; omega))).trans ((b18.cell (p := ⟨W16.heap.size, 0, none⟩) (by first | omega | (simp; done) | (simp; omega))).trans ((b17.cell (p := ⟨W16.heap.size, 0, none⟩) (by first | omega | (simp; done) | (simp; omega))).trans (by first | (simp; done) | go_simp))))⟩ | 1, _ => ⟨.slice none 0 0, ((b19.cell (p := ⟨W16.heap.size, 1, none⟩) (by first | omega | (simp; done) | (simp; omega))).trans ((b18.cell (p := ⟨W16.heap.size, 1, none⟩) (by first | omega | (simp; done) | (simp; omega))).trans ((b17.cell (p := ⟨W16.heap.size, 1, none⟩) (by first | omega | (simp; done) | (simp; omega))).trans (by first | (simp; done) | go_simp))))⟩ | n + 2, h => absurd h (by simp)); exact ⟨((W19.setCell ⟨W16.heap.size, 0, none⟩ (.int .i64 (r0_AddDitch a0_0 xa0_1 a1_0 a1_1 a1_2))).setCell ⟨W16.heap.size, 1, none⟩ (.slice A19_0 (r1_AddDitch a0_0 xa0_1 a1_0 a1_1 a1_2).length c19_0)), W16.heap.size, A19_0, c19_0, W18.heap.size, W19.heap.size, rfl, rfl, rfl, (by first | omega | (simp; done) | (simp; omega)), ho.lt, ho.lt, (D19.trans (ho.below (by first | omega | (simp; done) | (simp; omega)) (by first | omega | (simp; done) | (simp; omega)))), (by have := ho.size; omega), ((ho.other 0 (by first | omega | (simp; done) | (simp; omega)) (by first | omega | (simp; done) | (simp; omega))).trans y19_6_0), ((ho.other 1 (by first | omega | (simp; done) | (simp; omega)) (by first | omega | (simp; done) | (simp; omega))).trans y19_6_1), (by have := ho.size; omega), ((ho.other 0 (by first | omega | (simp; done) | (simp; omega)) (by first | omega | (simp; done) | (simp; omega))).trans y19_9_0), ((ho.other 1 (by first | omega | (simp; done) | (simp; omega)) (by first | omega | (simp; done) | (simp; omega))).trans y19_9_1), (by have := ho.size; omega), (ho.at 0 rfl), (ho.at 1 rfl), (q19_A4_0.chg t5_A4_0 ho.chg (by first | omega | (simp; done) | (simp; omega))), (q19_A8_0.chg t9_A8_0 ho.chg (by first | omega | (simp; done) | (simp; omega))), ((p19_0.chg p19_0.lt ho.chg (by first | omega | (simp; done) | (simp; omega))).lower (by first | omega | (simp; done) | (simp; omega))), p19_0.lt, (by first | omega | (simp; done) | (simp; omega)), (by have := ho.size; omega), (by first | omega | (simp; done) | (simp; omega))⟩) | (have ho : Out W19 ((W19.setCell ⟨W17.heap.size, 0, none⟩ (.int .i64 (r0_AddDitch a0_0 xa0_1 a1_0 a1_1 a1_2))).setCell ⟨W17.heap.size, 1, none⟩ (.slice A19_0 (r1_AddDitch a0_0 xa0_1 a1_0 a1_1 a1_2).length c19_0)) (W17.heap.size) [(.int .i64 (r0_AddDitch a0_0 xa0_1 a1_0 a1_1 a1_2)), (.slice A19_0 (r1_AddDitch a0_0 xa0_1 a1_0 a1_1 a1_2).length c19_0)] := Out.put W19 (W17.heap.size) [(.int .i64 (r0_AddDitch a0_0 xa0_1 a1_0 a1_1 a1_2)), (.slice A19_0 (r1_AddDitch a0_0 xa0_1 a1_0 a1_1 a1_2).length c19_0)] (by first | omega | (simp; done) | (simp; omega)) (fun i hi => match i, hi with | 0, _ => ⟨.int .i64 0, ((b19.cell (p := ⟨W17.heap.size, 0, none⟩) (by first | omega | (simp; done) | (simp; omega))).trans ((b18.cell (p := ⟨W17.heap.size, 0, none⟩) (by first | omega | (simp; done) | (simp; omega))).trans (by first | (simp; done) | go_simp)))⟩ | 1, _ => ⟨.slice none 0 0, ((b19.cell (p := ⟨W17.heap.size, 1, none⟩) (by first | omega | (simp; done) | (simp; omega))).trans ((b18.cell (p := ⟨W17.heap.size, 1, none⟩) (by first | omega | (simp; done) | (simp; omega))).trans (by first | (simp; done) | go_simp)))⟩ | n + 2, h => absurd h (by simp)); exact ⟨((W19.setCell ⟨W17.heap.size, 0, none⟩ (.int .i64 (r0_AddDitch a0_0 xa0_1 a1_0 a1_1 a1_2))).setCell ⟨W17.heap.size, 1, none⟩ (.slice A19_0 (r1_AddDitch a0_0 xa0_1 a1_0 a1_1 a1_2).length c19_0)), W17.heap.size, A19_0, c19_0, W18.heap.size, W19.heap.size, rfl, rfl, rfl, (by first | omega | (simp; done) | (simp; omega)), ho.lt, ho.lt, (D19.trans (ho.below (by first | omega | (simp; done) | (simp; omega)) (by first | omega | (simp; done) | (simp; omega)))), (by have := ho.size; omega), ((ho.other 0 (by first | omega | (simp; done) | (simp; omega)) (by first | omega | (simp; done) | (simp; omega))).trans y19_6_0), ((ho.other 1 (by first | omega | (simp; done) | (simp; omega)) (by first | omega | (simp; done) | (simp; omega))).trans y19_6_1), (by have := ho.size; omega), ((ho.other 0 (by first | omega | (simp; done) | (simp; omega)) (by first | omega | (simp; done) | (simp; omega))).trans y19_9_0), ((ho.other 1 (by first | omega | (simp; done) | (simp; omega)) (by first | omega | (simp; done) | (simp; omega))).trans y19_9_1), (by have := ho.size; omega), (ho.at 0 rfl), (ho.at 1 rfl), (q19_A4_0.chg t5_A4_0 ho.chg (by first | omega | (simp; done) | (simp; omega))), (q19_A8_0.chg t9_A8_0 ho.chg (by first | omega | (simp; done) | (simp; omega))), ((p19_0.chg p19_0.lt ho.chg (by first | omega | (simp; done) | (simp; omega))).lower (by first | omega | (simp; done) | (simp; omega))), p19_0.lt, (by first | omega | (simp; done) | (simp; omega)), (by have := ho.size; omega), (by first | omega | (simp; done) | (simp; omega))⟩) | (have ho : Out W19 ((W19.setCell ⟨W18.heap.size, 0, none⟩ (.int .i64 (r0_AddDitch a0_0 xa0_1 a1_0 a1_1 a1_2))).setCell ⟨W18.heap.size, 1, none⟩ (.slice A19_0 (r1_AddDitch a0_0 xa0_1 a1_0 a1_1 a1_2).length c19_0)) (W18.heap.size) [(.int .i64 (r0_AddDitch a0_0 xa0_1 a1_0 a1_1 a1_2)), (.slice A19_0 (r1_AddDitch a0_0 xa0_1 a1_0 a1_1 a1_2).length c19_0)] := Out.put W19 (W18.heap.size) [(.int .i64 (r0_AddDitch a0_0 xa0_1 a1_0 a1_1 a1_2)), (.slice A19_0 (r1_AddDitch a0_0 xa0_1 a1_0 a1_1 a1_2).length c19_0)] (by first | omega | (simp; done) | (simp; omega)) (fun i hi => match i, hi with | 0, _ => ⟨.int .i64 0, ((b19.cell (p := ⟨W18.heap.size, 0, none⟩) (by first | omega | (simp; done) | (simp; omega))).trans (by first | (simp; done) | go_simp))⟩ | 1, _ => ⟨.slice none 0 0, ((b19.cell (p := ⟨W18.heap.size, 1, none⟩) (by first | omega | (simp; done) | (simp; omega))).trans (by first | (simp; done) | go_simp))⟩ | n + 2, h => absurd h (by simp)); exact ⟨((W19.setCell ⟨W18.heap.size, 0, none⟩ (.int .i64 (r0_AddDitch a0_0 xa0_1 a1_0 a1_1 a1_2))).setCell ⟨W18.heap.size, 1, none⟩ (.slice A19_0 (r1_AddDitch a0_0 xa0_1 a1_0 a1_1 a1_2).length c19_0)), W18.heap.size, A19_0, c19_0, W18.heap.size + 1, W19.heap.size, rfl, rfl, rfl, (by first | omega | (simp; done) | (simp; omega)), ho.lt, ho.lt, (D19.trans (ho.below (by first | omega | (simp; done) | (simp; omega)) (by first | omega | (simp; done) | (simp; omega)))), (by have := ho.size; omega), ((ho.other 0 (by first | omega | (simp; done) | (simp; omega)) (by first | omega | (simp; done) | (simp; omega))).trans y19_6_0), ((ho.other 1 (by first | omega | (simp; done) | (simp; omega)) (by first | omega | (simp; done) | (simp; omega))).trans y19_6_1), (by have := ho.size; omega), ((ho.other 0 (by first | omega | (simp; done) | (simp; omega)) (by first | omega | (simp; done) | (simp; omega))).trans y19_9_0), ((ho.other 1 (by first | omega | (simp; done) | (simp; omega)) (by first | omega | (simp; done) | (simp; omega))).trans y19_9_1), (by have := ho.size; omega), (ho.at 0 rfl), (ho.at 1 rfl), (q19_A4_0.chg t5_A4_0 ho.chg (by first | omega | (simp; done) | (simp; omega))), (q19_A8_0.chg t9_A8_0 ho.chg (by first | omega | (simp; done) | (simp; omega))), ((p19_0.chg p19_0.lt ho.chg (by first | omega | (simp; done) | (simp; omega))).lower (by first | omega | (simp; done) | (simp; omega))), p19_0.lt, (by first | omega | (simp; done) | (simp; omega)), (by have := ho.size; omega), (by first | omega | (simp; done) | (simp; omega))⟩) | (have ho : Out W19 (W19.alloc (.cells #[(.int .i64 (r0_AddDitch a0_0 xa0_1 a1_0 a1_1 a1_2)), (.slice A19_0 (r1_AddDitch a0_0 xa0_1 a1_0 a1_1 a1_2).length c19_0)] 30)) (W19.heap.size) [(.int .i64 (r0_AddDitch a0_0 xa0_1 a1_0 a1_1 a1_2)), (.slice A19_0 (r1_AddDitch a0_0 xa0_1 a1_0 a1_1 a1_2).length c19_0)] := Out.new W19 [(.int .i64 (r0_AddDitch a0_0 xa0_1 a1_0 a1_1 a1_2)), (.slice A19_0 (r1_AddDitch a0_0 xa0_1 a1_0 a1_1 a1_2).length c19_0)] 30; exact ⟨(W19.alloc (.cells #[(.int .i64 (r0_AddDitch a0_0 xa0_1 a1_0 a1_1 a1_2)), (.slice A19_0 (r1_AddDitch a0_0 xa0_1 a1_0 a1_1 a1_2).length c19_0)] 30)), W19.heap.size, A19_0, c19_0, W18.heap.size, W19.heap.size, rfl, rfl, rfl, (by first | omega | (simp; done) | (simp; omega)), ho.lt, ho.lt, (D19.trans (ho.below (by first | omega | (simp; done) | (simp; omega)) (by first | omega | (simp; done) | (simp; omega)))), (by have := ho.size; omega), ((ho.other 0 (by first | omega | (simp; done) | (simp; omega)) (by first | omega | (simp; done) | (simp; omega))).trans y19_6_0), ((ho.other 1 (by first | omega | (simp; done) | (simp; omega)) (by first | omega | (simp; done) | (simp; omega))).trans y19_6_1), (by have := ho.size; omega), ((ho.other 0 (by first | omega | (simp; done) | (simp; omega)) (by first | omega | (simp; done) | (simp; omega))).trans y19_9_0), ((ho.other 1 (by first | omega | (simp; done) | (simp; omega)) (by first | omega | (simp; done) | (simp; omega))).trans y19_9_1), (by have := ho.size; omega), (ho.at 0 rfl), (ho.at 1 rfl), (q19_A4_0.chg t5_A4_0 ho.chg (by first | omega | (simp; done) | (simp; omega))), (q19_A8_0.chg t9_A8_0 ho.chg (by first | omega | (simp; done) | (simp; omega))), ((p19_0.chg p19_0.lt ho.chg (by first | omega | (simp; done) | (simp; omega))).lower (by first | omega | (simp; done) | (simp; omega))), p19_0.lt, (by first | omega | (simp; done) | (simp; omega)), (by have := ho.size; omega), (by first | omega | (simp; done) | (simp; omega))⟩))
  case rest =>
  obtain ⟨W20, g24, A19_0, c19_0, lo24, hi24, rfl, rfl, rfl, hg24a, hg24b, n20_14, D20, s20, y20_6_0, y20_6_1, n20_6, y20_9_0, y20_9_1, n20_9, y20_14_0, y20_14_1, q20_A4_0, q20_A8_0, q20_A19_0, t20_A19_0, hl24a, hl24b, hl24c⟩ := hcut
  skip
  try clear b1
  try clear d1
  try clear D1
  try clear y1_2_0
  try clear y1_2_1
  try clear n1_2
  try clear y1_3_0
  try clear y1_3_1
  try clear y1_3_2
  try clear n1_3
  try clear q1_a0_1
  try clear x5_0
  try clear x5_0'
  try clear x5_1
  try clear x5_1'
  try clear d2
  try clear D2
  try clear y2_2_0
  try clear y2_2_1
  try clear n2_2
  try clear y2_3_0
  try clear y2_3_1
  try clear y2_3_2
  try clear n2_3
  try clear q2_a0_1
  try clear q2_A2_0
  try clear v2_0
  try clear x2_0
  try clear x2_0'
  try clear x2_1
  try clear x2_1'
  try clear d3
  try clear D3
  try clear y3_2_0
  try clear y3_2_1
  try clear n3_2
  try clear y3_3_0
  try clear y3_3_1
  try clear y3_3_2
  try clear n3_3
  try clear q3_a0_1
  try clear q3_A2_0
  try clear v3_0
  try clear v3_1
  try clear x3_0
  try clear x3_0'
  try clear x3_1
  try clear x3_1'
  try clear d4
  try clear D4
  try clear y4_2_0
  try clear y4_2_1
  try clear n4_2
  try clear y4_3_0
  try clear y4_3_1
  try clear y4_3_2
  try clear n4_3
  try clear q4_a0_1
  try clear q4_A4_0
  try clear v4_0
  try clear v4_1
  try clear v4_2
  try clear x4_0
  try clear x4_0'
  try clear x4_1
  try clear x4_1'
  try clear b3
  try clear b2
  try clear b4
  try clear p2_0
  try clear p4_0
  try clear n5_6
  try clear D5
  try clear y5_2_0
  try clear y5_2_1
  try clear n5_2
  try clear y5_3_0
  try clear y5_3_1
  try clear y5_3_2
  try clear n5_3
  try clear y5_6_0
  try clear y5_6_1
  try clear q5_a0_1
  try clear q5_A4_0
  try clear b6
  try clear p6_0
  try clear d6
  try clear D6
  try clear y6_2_0
  try clear y6_2_1
  try clear n6_2
  try clear y6_3_0
  try clear y6_3_1
  try clear y6_3_2
  try clear n6_3
  try clear y6_6_0
  try clear y6_6_1
  try clear n6_6
  try clear q6_a0_1
  try clear q6_A4_0
  try clear q6_A6_0
  try clear x7_0
  try clear x7_0'
  try clear x7_1
  try clear x7_1'
  try clear d7
  try clear D7
  try clear y7_2_0
  try clear y7_2_1
  try clear n7_2
  try clear y7_3_0
  try clear y7_3_1
  try clear y7_3_2
  try clear n7_3
  try clear y7_6_0
  try clear y7_6_1
  try clear n7_6
  try clear y7_8_0
  try clear y7_8_1
  try clear n7_8
  try clear q7_a0_1
  try clear q7_A4_0
  try clear q7_A6_0
  try clear v7_0
  try clear v7_0_1
  try clear d8
  try clear D8
  try clear y8_2_0
  try clear y8_2_1
  try clear n8_2
  try clear y8_3_0
  try clear y8_3_1
  try clear y8_3_2
  try clear n8_3
  try clear y8_6_0
  try clear y8_6_1
  try clear n8_6
  try clear y8_8_0
  try clear y8_8_1
  try clear n8_8
  try clear q8_a0_1
  try clear q8_A4_0
  try clear q8_A6_0
  try clear q8_A8_0
  try clear v8_0
  try clear v8_1
  try clear v8_0_1
  try clear x8_0
  try clear x8_0'
  try clear x8_1
  try clear x8_1'
  try clear b7
  try clear b8
  try clear p8_0
  try clear n9_9
  try clear D9
  try clear y9_2_0
  try clear y9_2_1
  try clear n9_2
  try clear y9_3_0
  try clear y9_3_1
  try clear y9_3_2
  try clear n9_3
  try clear y9_6_0
  try clear y9_6_1
  try clear n9_6
  try clear y9_8_0
  try clear y9_8_1
  try clear n9_8
  try clear y9_9_0
  try clear y9_9_1
  try clear q9_a0_1
  try clear q9_A4_0
  try clear q9_A6_0
  try clear q9_A8_0
  try clear b10
  try clear d10
  try clear D10
  try clear y10_2_0
  try clear y10_2_1
  try clear n10_2
  try clear y10_3_0
  try clear y10_3_1
  try clear y10_3_2
  try clear n10_3
  try clear y10_6_0
  try clear y10_6_1
  try clear n10_6
  try clear y10_8_0
  try clear y10_8_1
  try clear n10_8
  try clear y10_9_0
  try clear y10_9_1
  try clear n10_9
  try clear q10_a0_1
  try clear q10_A4_0
  try clear q10_A6_0
  try clear q10_A8_0
  try clear d11
  try clear D11
  try clear y11_2_0
  try clear y11_2_1
  try clear n11_2
  try clear y11_3_0
  try clear y11_3_1
  try clear y11_3_2
  try clear n11_3
  try clear y11_6_0
  try clear y11_6_1
  try clear n11_6
  try clear y11_8_0
  try clear y11_8_1
  try clear n11_8
  try clear y11_9_0
  try clear y11_9_1
  try clear n11_9
  try clear q11_a0_1
  try clear q11_A4_0
  try clear q11_A6_0
  try clear q11_A8_0
  try clear q11_A11_0
  try clear d12
  try clear D12
  try clear y12_2_0
  try clear y12_2_1
  try clear n12_2
  try clear y12_3_0
  try clear y12_3_1
  try clear y12_3_2
  try clear n12_3
  try clear y12_6_0
  try clear y12_6_1
  try clear n12_6
  try clear y12_8_0
  try clear y12_8_1
  try clear n12_8
  try clear y12_9_0
  try clear y12_9_1
  try clear n12_9
  try clear q12_a0_1
  try clear q12_A4_0
  try clear q12_A6_0
  try clear q12_A8_0
  try clear b12
  try clear b11
  try clear p11_0
  try clear b13
  try clear d13
  try clear D13
  try clear y13_2_0
  try clear y13_2_1
  try clear n13_2
  try clear y13_3_0
  try clear y13_3_1
  try clear y13_3_2
  try clear n13_3
  try clear y13_6_0
  try clear y13_6_1
  try clear n13_6
  try clear y13_9_0
  try clear y13_9_1
  try clear n13_9
  try clear q13_a0_1
  try clear q13_A4_0
  try clear q13_A8_0
  try clear b14
  try clear d14
  try clear D14
  try clear y14_2_0
  try clear y14_2_1
  try clear n14_2
  try clear y14_3_0
  try clear y14_3_1
  try clear y14_3_2
  try clear n14_3
  try clear y14_6_0
  try clear y14_6_1
  try clear n14_6
  try clear y14_9_0
  try clear y14_9_1
  try clear n14_9
  try clear q14_a0_1
  try clear q14_A4_0
  try clear q14_A8_0
  try clear b15
  try clear d15
  try clear D15
  try clear y15_2_0
  try clear y15_2_1
  try clear n15_2
  try clear y15_3_0
  try clear y15_3_1
  try clear y15_3_2
  try clear n15_3
  try clear y15_6_0
  try clear y15_6_1
  try clear n15_6
  try clear y15_9_0
  try clear y15_9_1
  try clear n15_9
  try clear q15_a0_1
  try clear q15_A4_0
  try clear b16
  try clear d16
  try clear D16
  try clear y16_2_0
  try clear y16_2_1
  try clear n16_2
  try clear y16_3_0
  try clear y16_3_1
  try clear y16_3_2
  try clear n16_3
  try clear y16_6_0
  try clear y16_6_1
  try clear n16_6
  try clear y16_9_0
  try clear y16_9_1
  try clear n16_9
  try clear q16_a0_1
  try clear q16_A4_0
  try clear q16_A8_0
  try clear x24_0
  try clear x24_0'
  try clear x24_1
  try clear x24_1'
  try clear d17
  try clear D17
  try clear y17_2_0
  try clear y17_2_1
  try clear n17_2
  try clear y17_3_0
  try clear y17_3_1
  try clear y17_3_2
  try clear n17_3
  try clear y17_6_0
  try clear y17_6_1
  try clear n17_6
  try clear y17_9_0
  try clear y17_9_1
  try clear n17_9
  try clear q17_A4_0
  try clear q17_A8_0
  try clear q17_A17_0
  try clear v17_0
  try clear x17_0
  try clear x17_0'
  try clear x17_1
  try clear x17_1'
  try clear d18
  try clear D18
  try clear y18_2_0
  try clear y18_2_1
  try clear n18_2
  try clear y18_3_0
  try clear y18_3_1
  try clear y18_3_2
  try clear n18_3
  try clear y18_6_0
  try clear y18_6_1
  try clear n18_6
  try clear y18_9_0
  try clear y18_9_1
  try clear n18_9
  try clear q18_A4_0
  try clear q18_A8_0
  try clear q18_A17_0
  try clear v18_0
  try clear v18_1
  try clear x18_0
  try clear x18_0'
  try clear x18_1
  try clear x18_1'
  try clear d19
  try clear D19
  try clear y19_2_0
  try clear y19_2_1
  try clear n19_2
  try clear y19_3_0
  try clear y19_3_1
  try clear y19_3_2
  try clear n19_3
  try clear y19_6_0
  try clear y19_6_1
  try clear n19_6
  try clear y19_9_0
  try clear y19_9_1
  try clear n19_9
  try clear q19_A4_0
  try clear q19_A8_0
  try clear q19_A19_0
  try clear v19_0
  try clear v19_1
  try clear v19_2
  try clear x19_0
  try clear x19_0'
  try clear x19_1
  try clear x19_1'
  try clear b18
  try clear b17
  try clear b19
  try clear p17_0
  try clear p19_0
  go_wp2_with fail
  refine (eqNet_x _ _ _ _ _ _ (r1_AddDitch a0_0 xa0_1 a1_0 a1_1 a1_2) _ hl_r1_AddDitch (Rd_Ditch.mono ((q20_A19_0.rd).below (by repeat (first | assumption | exact Below.refl _ _ | (refine Below.setCell ?_ (by first | omega | (simp; done) | (simp; omega)) _) | apply below_drewN | apply Below.drew | (refine Below.alloc ?_ (by first | omega | (simp; done) | (simp; omega)) _)))) (by first | omega | (simp; done) | (simp; omega))) (Rd_Ditch.mono ((q20_A4_0.rd).below (by repeat (first | assumption | exact Below.refl _ _ | (refine Below.setCell ?_ (by first | omega | (simp; done) | (simp; omega)) _) | apply below_drewN | apply Below.drew | (refine Below.alloc ?_ (by first | omega | (simp; done) | (simp; omega)) _)))) (by first | omega | (simp; done) | (simp; omega)))).mono ?_
  rintro e21 W21 ⟨rfl, b21⟩
  obtain ⟨k21, _⟩ := bcell b21
  have s21 : W20.heap.size + 0 ≤ W21.heap.size := by have := b21.size; (try simp at this); omega
  have d21 : Below W20.heap.size W20 W21 := (by repeat (first | assumption | exact Below.refl _ _ | (refine Below.trans ?_ (b21.mono (by first | omega | (simp; done) | (simp; omega)))) | (refine Below.setCell ?_ (by first | omega | (simp; done) | (simp; omega)) _) | apply below_drewN | apply Below.drew | (refine Below.alloc ?_ (by first | omega | (simp; done) | (simp; omega)) _)))
  have D21 : Below w.heap.size w W21 := Below.trans D20 (d21.mono (by omega))
  have y21_9_0 : W21.cell? ⟨g7, 0, none⟩ = some (.int .i64 (r0_AddDitch a0_0 xa0_1 a1_0 a1_1 a1_2)) := (d21.cell (p := ⟨g7, 0, none⟩) (show g7 < W20.heap.size by omega)).trans y20_9_0
  have y21_9_1 : W21.cell? ⟨g7, 1, none⟩ = some (.slice A8_0 (r1_AddDitch a0_0 xa0_1 a1_0 a1_1 a1_2).length c8_0) := (d21.cell (p := ⟨g7, 1, none⟩) (show g7 < W20.heap.size by omega)).trans y20_9_1
  have n21_9 : g7 < W21.heap.size := by omega
  have q21_A8_0 : Wr_Ditch W21 lo7 A8_0 (r1_AddDitch a0_0 xa0_1 a1_0 a1_1 a1_2).length (marks_Ditch (1) (r1_AddDitch a0_0 xa0_1 a1_0 a1_1 a1_2).length) := q20_A8_0.below d21
  clear k21 y20_6_0 y20_6_1 y20_9_0 y20_9_1 n20_9 y20_14_0 y20_14_1
  go_wp2_with fail
  refine (heldNet_x _ _ _ _ _ _ (by omega) (by omega) hl_r1_AddDitch (Rd_Ditch.mono ((q21_A8_0.rd).below (by repeat (first | assumption | exact Below.refl _ _ | (refine Below.setCell ?_ (by first | omega | (simp; done) | (simp; omega)) _) | apply below_drewN | apply Below.drew | (refine Below.alloc ?_ (by first | omega | (simp; done) | (simp; omega)) _)))) (by first | omega | (simp; done) | (simp; omega)))).mono ?_
  rintro e22 W22 ⟨rfl, b22⟩
  obtain ⟨k22, _⟩ := bcell b22
  have s22 : W21.heap.size + 0 ≤ W22.heap.size := by have := b22.size; (try simp at this); omega
  have d22 : Below W21.heap.size W21 W22 := (by repeat (first | assumption | exact Below.refl _ _ | (refine Below.trans ?_ (b22.mono (by first | omega | (simp; done) | (simp; omega)))) | (refine Below.setCell ?_ (by first | omega | (simp; done) | (simp; omega)) _) | apply below_drewN | apply Below.drew | (refine Below.alloc ?_ (by first | omega | (simp; done) | (simp; omega)) _)))
  have D22 : Below w.heap.size w W22 := Below.trans D21 (d22.mono (by omega))
  clear k22 y21_9_0 y21_9_1
  go_wp2
  go_ret
  exact ⟨rfl, (by repeat (first | assumption | exact Below.refl _ _ | (refine Below.trans ?_ (D22.mono (by first | omega | (simp; done) | (simp; omega)))) | (refine Below.setCell ?_ (by first | omega | (simp; done) | (simp; omega)) _) | apply below_drewN | apply Below.drew | (refine Below.alloc ?_ (by first | omega | (simp; done) | (simp; omega)) _)))⟩

set_option maxRecDepth 100000 in
set_option maxHeartbeats 1000000 in
theorem walk_FnExactAddDitch (a0_0 : Int) (a0_1 : Option Addr) (la0_1 ca0_1 : Nat) (a1_0 : Int) (a1_1 : Int) (a1_2 : Int) (w : World) (wa0_0 : (Lit.int .i64 a0_0).wf = true) (wa0_1 : IsCells [gInt, gInt, gInt] w a0_1 la0_1 ca0_1) (wa1_0 : (Lit.int .i64 a1_0).wf = true) (wa1_1 : (Lit.int .i64 a1_1).wf = true) (wa1_2 : (Lit.int .i64 a1_2).wf = true) :
    Calls Try.prog 3 #[.agg #[.int .i64 a0_0, .slice a0_1 la0_1 ca0_1], .agg #[.int .i64 a1_0, .int .i64 a1_1, .int .i64 a1_2]] w fun e w' => e = .returned (.bool true) ∧ Below w.heap.size w w' := by
  obtain ⟨xa0_1, ra0_1, fa0_1⟩ := IsCells.rd_Ditch wa0_1
  have ma0_1 := wa0_1.len
  unfold maxLen at ma0_1
  by_cases htot : la0_1 ≤ 1048576
  case neg =>
    go_enter Try.func3, Try.ntmps3
    go_wp2
    all_goals (first | (go_ret; exact ⟨rfl, (by repeat (first | assumption | exact Below.refl _ _ | (refine Below.setCell ?_ (by first | omega | (simp; done) | (simp; omega)) _) | apply below_drewN | apply Below.drew | (refine Below.alloc ?_ (by first | omega | (simp; done) | (simp; omega)) _)))⟩) | (exfalso; omega))
  exact law_AddDitch a0_0 a0_1 la0_1 ca0_1 xa0_1 a1_0 a1_1 a1_2 w wa0_0 (by omega) ra0_1 fa0_1 wa1_0 wa1_1 wa1_2 htot

end Go.Proofs.Ytlibmlbefboolaa
