/- The walk of the law on StepSluice: written by a program out of the law's operations. -/
import Derived.Test.YtcimigaimlojlaaCStepSluice
import Derived.Deep.DeepCutAuto

import Derived.Test.YtcimigaimlojlaaOut
namespace Go.Proofs.Ytcimigaimlojlaa
open Go.RowKit

set_option maxRecDepth 100000 in
set_option maxHeartbeats 4000000 in
theorem law_StepSluice (a0_0 : Int) (a0_1 : Int) (a1_0 : Bool) (a1_1 : Int) (a1_2 : Int) (a2 : Int) (a3 : Int) (a4 : Int) (w : World) (ha0_0 : (Lit.int .i64 a0_0).wf = true) (ha0_1 : (Lit.int .i64 a0_1).wf = true) (ha1_1 : (Lit.int .i64 a1_1).wf = true) (ha1_2 : (Lit.int .i64 a1_2).wf = true) (ha2 : (Lit.int .i64 a2).wf = true) (ha3 : (Lit.int .i64 a3).wf = true) (ha4 : (Lit.int .i64 a4).wf = true)  :
    Calls Try.prog 4 #[.agg #[.int .i64 a0_0, .int .i64 a0_1], .agg #[.bool a1_0, .int .i64 a1_1, .int .i64 a1_2], .int .i64 a2, .int .i64 a3, .int .i64 a4] w fun e w' => e = .returned (.bool true) ∧ Below w.heap.size w w' := by
  have er0_StepSluice : ((r0_StepSluice a0_0 a0_1 a1_0 a1_1 a1_2 a2 a3 a4) != (r0_StepSluice a0_0 a0_1 a1_0 a1_1 a1_2 a2 a3 a4)) = false := by simp
  have er1_StepSluice : ((r1_StepSluice a0_0 a0_1 a1_0 a1_1 a1_2 a2 a3 a4) != (r1_StepSluice a0_0 a0_1 a1_0 a1_1 a1_2 a2 a3 a4)) = false := by simp
  have er2_StepSluice : ((r2_StepSluice a0_0 a0_1 a1_0 a1_1 a1_2 a2 a3 a4) != (r2_StepSluice a0_0 a0_1 a1_0 a1_1 a1_2 a2 a3 a4)) = false := by simp
  have er3_StepSluice : ((r3_StepSluice a0_0 a0_1 a1_0 a1_1 a1_2 a2 a3 a4) != (r3_StepSluice a0_0 a0_1 a1_0 a1_1 a1_2 a2 a3 a4)) = false := by simp
  go_enter Try.func4, Try.ntmps4
  have x1_0 : ¬ w.heap.size = w.heap.size + 1 + 1 := by omega
  have x1_0' : ¬ w.heap.size + 1 + 1 = w.heap.size := by omega
  have x1_1 : ¬ w.heap.size + 1 = w.heap.size + 1 + 1 := by omega
  have x1_1' : ¬ w.heap.size + 1 + 1 = w.heap.size + 1 := by omega
  go_upto_region 1 with fail
  go_cut [11, 12] (fun s11 s12 W4' => ∃ (W4 : World) (g1 : Nat) , W4 = W4' ∧ s11 = .pointer (some ⟨g1, 0, none⟩) ∧ s12 = .int .i64 (r3_StepSluice a0_0 a0_1 a1_0 a1_1 a1_2 a2 a3 a4) ∧ w.heap.size ≤ g1 ∧ g1 < W4.heap.size ∧ g1 < W4.heap.size ∧ Below w.heap.size w W4 ∧ w.heap.size + 2 ≤ W4.heap.size ∧ W4.cell? ⟨w.heap.size, 0, none⟩ = some (.int .i64 a0_0) ∧ W4.cell? ⟨w.heap.size, 1, none⟩ = some (.int .i64 a0_1) ∧ w.heap.size < W4.heap.size ∧ W4.cell? ⟨w.heap.size + 1, 0, none⟩ = some (.bool a1_0) ∧ W4.cell? ⟨w.heap.size + 1, 1, none⟩ = some (.int .i64 a1_1) ∧ W4.cell? ⟨w.heap.size + 1, 2, none⟩ = some (.int .i64 a1_2) ∧ w.heap.size + 1 < W4.heap.size ∧ W4.cell? ⟨g1, 0, none⟩ = some (.bool (r0_StepSluice a0_0 a0_1 a1_0 a1_1 a1_2 a2 a3 a4)) ∧ W4.cell? ⟨g1, 1, none⟩ = some (.int .i64 (r1_StepSluice a0_0 a0_1 a1_0 a1_1 a1_2 a2 a3 a4)) ∧ W4.cell? ⟨g1, 2, none⟩ = some (.int .i64 (r2_StepSluice a0_0 a0_1 a1_0 a1_1 a1_2 a2 a3 a4)))
  case first =>
    go_region_held3 (fun w' => w'.cell? ⟨w.heap.size, 0, none⟩ = some (.int .i64 a0_0) ∧ w'.cell? ⟨w.heap.size, 1, none⟩ = some (.int .i64 a0_1) ∧ w'.cell? ⟨w.heap.size + 1, 0, none⟩ = some (.bool a1_0) ∧ w'.cell? ⟨w.heap.size + 1, 1, none⟩ = some (.int .i64 a1_1) ∧ w'.cell? ⟨w.heap.size + 1, 2, none⟩ = some (.int .i64 a1_2)) (first | ((refine ⟨?_, ?_, ?_, ?_, ?_⟩ <;> (repeat (first | (with_reducible assumption) | (with_reducible refine keepA ?_) | (with_reducible refine keepD ?_) | ((with_reducible refine keep1 ?_ ?_); rotate_left 1; omega) | (simp; done)))); done) | go_keep) (first | (go_at_call 10; refine (toSluice_x _ _ _ ).mono ?_; rintro e1 W1 ⟨rfl, b1⟩; obtain ⟨k1, f1⟩ := bcell b1; (have s1 : w.heap.size + 2 ≤ W1.heap.size := by have := b1.size; (try simp at this); omega); (have d1 : Below w.heap.size w W1 := (by repeat (first | assumption | exact Below.refl _ _ | (refine Below.trans ?_ (b1.mono (by first | omega | (simp; done) | (simp; omega)))) | (refine Below.setCell ?_ (by first | omega | (simp; done) | (simp; omega)) _) | apply below_drewN | apply Below.drew | (refine Below.alloc ?_ (by first | omega | (simp; done) | (simp; omega)) _)))); (have D1 : Below w.heap.size w W1 := (d1.mono (by omega))); (have y1_5_0 : W1.cell? ⟨w.heap.size, 0, none⟩ = some (.int .i64 a0_0) := by rw [k1 _ _ (by first | omega | (simp; done) | (simp; omega))]; first | (simp; done) | go_simp); (have y1_5_1 : W1.cell? ⟨w.heap.size, 1, none⟩ = some (.int .i64 a0_1) := by rw [k1 _ _ (by first | omega | (simp; done) | (simp; omega))]; first | (simp; done) | go_simp); (have n1_5 : w.heap.size < W1.heap.size := by omega); (have y1_6_0 : W1.cell? ⟨w.heap.size + 1, 0, none⟩ = some (.bool a1_0) := by rw [k1 _ _ (by first | omega | (simp; done) | (simp; omega))]; first | (simp; done) | go_simp); (have y1_6_1 : W1.cell? ⟨w.heap.size + 1, 1, none⟩ = some (.int .i64 a1_1) := by rw [k1 _ _ (by first | omega | (simp; done) | (simp; omega))]; first | (simp; done) | go_simp); (have y1_6_2 : W1.cell? ⟨w.heap.size + 1, 2, none⟩ = some (.int .i64 a1_2) := by rw [k1 _ _ (by first | omega | (simp; done) | (simp; omega))]; first | (simp; done) | go_simp); (have n1_6 : w.heap.size + 1 < W1.heap.size := by omega); (try have v1_0 : w.heap.size < W1.heap.size := (by have := b1.size; (try simp at this); omega)); (try have v1_0_1 : w.heap.size + 1 < W1.heap.size := (by have := b1.size; (try simp at this); omega)); (try have v1_0_2 : w.heap.size + 1 + 1 < W1.heap.size := (by have := b1.size; (try simp at this); omega)); (have x1_0 : ¬ w.heap.size = W1.heap.size := (by omega)); (have x1_0' : ¬ W1.heap.size = w.heap.size := (by omega)); (have x1_1 : ¬ w.heap.size + 1 = W1.heap.size := (by omega)); (have x1_1' : ¬ W1.heap.size = w.heap.size + 1 := (by omega))) | (go_at_call 13; refine (toGate_x _ _ _ _ ).mono ?_; rintro e2 W2 ⟨rfl, b2⟩; obtain ⟨k2, f2⟩ := bcell b2; (have s2 : W1.heap.size + 0 ≤ W2.heap.size := by have := b2.size; (try simp at this); omega); (have d2 : Below W1.heap.size W1 W2 := (by repeat (first | assumption | exact Below.refl _ _ | (refine Below.trans ?_ (b2.mono (by first | omega | (simp; done) | (simp; omega)))) | (refine Below.setCell ?_ (by first | omega | (simp; done) | (simp; omega)) _) | apply below_drewN | apply Below.drew | (refine Below.alloc ?_ (by first | omega | (simp; done) | (simp; omega)) _)))); (have D2 : Below w.heap.size w W2 := Below.trans D1 (d2.mono (by omega))); (have y2_5_0 : W2.cell? ⟨w.heap.size, 0, none⟩ = some (.int .i64 a0_0) := (d2.cell (p := ⟨w.heap.size, 0, none⟩) (show w.heap.size < W1.heap.size by omega)).trans y1_5_0); (have y2_5_1 : W2.cell? ⟨w.heap.size, 1, none⟩ = some (.int .i64 a0_1) := (d2.cell (p := ⟨w.heap.size, 1, none⟩) (show w.heap.size < W1.heap.size by omega)).trans y1_5_1); (have n2_5 : w.heap.size < W2.heap.size := by omega); (have y2_6_0 : W2.cell? ⟨w.heap.size + 1, 0, none⟩ = some (.bool a1_0) := (d2.cell (p := ⟨w.heap.size + 1, 0, none⟩) (show w.heap.size + 1 < W1.heap.size by omega)).trans y1_6_0); (have y2_6_1 : W2.cell? ⟨w.heap.size + 1, 1, none⟩ = some (.int .i64 a1_1) := (d2.cell (p := ⟨w.heap.size + 1, 1, none⟩) (show w.heap.size + 1 < W1.heap.size by omega)).trans y1_6_1); (have y2_6_2 : W2.cell? ⟨w.heap.size + 1, 2, none⟩ = some (.int .i64 a1_2) := (d2.cell (p := ⟨w.heap.size + 1, 2, none⟩) (show w.heap.size + 1 < W1.heap.size by omega)).trans y1_6_2); (have n2_6 : w.heap.size + 1 < W2.heap.size := by omega); clear y1_5_0 y1_5_1 n1_5 y1_6_0 y1_6_1 y1_6_2 n1_6; (try have v2_0 : w.heap.size < W2.heap.size := (by have := b2.size; (try simp at this); omega)); (try have v2_1 : W1.heap.size < W2.heap.size := (by have := b2.size; (try simp at this); omega)); (try have v2_0_1 : w.heap.size + 1 < W2.heap.size := (by have := b2.size; (try simp at this); omega)); (try have v2_0_2 : w.heap.size + 1 + 1 < W2.heap.size := (by have := b2.size; (try simp at this); omega)); (have x2_0 : ¬ w.heap.size = W2.heap.size := (by omega)); (have x2_0' : ¬ W2.heap.size = w.heap.size := (by omega)); (have x2_1 : ¬ w.heap.size + 1 = W2.heap.size := (by omega)); (have x2_1' : ¬ W2.heap.size = w.heap.size + 1 := (by omega))) | (go_at_call 12; refine (specC_StepSluice _ _ _ _ _ _ _ _ _ ha0_0 ha0_1 ha1_1 ha1_2 ha2 ha3 ha4).mono ?_; rintro e3 W3 ⟨rfl, b3⟩; obtain ⟨k3, f3⟩ := bcell b3; (have s3 : W2.heap.size + 0 ≤ W3.heap.size := by have := b3.size; (try simp at this); omega); (have d3 : Below W2.heap.size W2 W3 := (by repeat (first | assumption | exact Below.refl _ _ | (refine Below.trans ?_ (b3.mono (by first | omega | (simp; done) | (simp; omega)))) | (refine Below.setCell ?_ (by first | omega | (simp; done) | (simp; omega)) _) | apply below_drewN | apply Below.drew | (refine Below.alloc ?_ (by first | omega | (simp; done) | (simp; omega)) _)))); (have D3 : Below w.heap.size w W3 := Below.trans D2 (d3.mono (by omega))); (have y3_5_0 : W3.cell? ⟨w.heap.size, 0, none⟩ = some (.int .i64 a0_0) := (d3.cell (p := ⟨w.heap.size, 0, none⟩) (show w.heap.size < W2.heap.size by omega)).trans y2_5_0); (have y3_5_1 : W3.cell? ⟨w.heap.size, 1, none⟩ = some (.int .i64 a0_1) := (d3.cell (p := ⟨w.heap.size, 1, none⟩) (show w.heap.size < W2.heap.size by omega)).trans y2_5_1); (have n3_5 : w.heap.size < W3.heap.size := by omega); (have y3_6_0 : W3.cell? ⟨w.heap.size + 1, 0, none⟩ = some (.bool a1_0) := (d3.cell (p := ⟨w.heap.size + 1, 0, none⟩) (show w.heap.size + 1 < W2.heap.size by omega)).trans y2_6_0); (have y3_6_1 : W3.cell? ⟨w.heap.size + 1, 1, none⟩ = some (.int .i64 a1_1) := (d3.cell (p := ⟨w.heap.size + 1, 1, none⟩) (show w.heap.size + 1 < W2.heap.size by omega)).trans y2_6_1); (have y3_6_2 : W3.cell? ⟨w.heap.size + 1, 2, none⟩ = some (.int .i64 a1_2) := (d3.cell (p := ⟨w.heap.size + 1, 2, none⟩) (show w.heap.size + 1 < W2.heap.size by omega)).trans y2_6_2); (have n3_6 : w.heap.size + 1 < W3.heap.size := by omega); clear y2_5_0 y2_5_1 n2_5 y2_6_0 y2_6_1 y2_6_2 n2_6; (try have v3_0 : w.heap.size < W3.heap.size := (by have := b3.size; (try simp at this); omega)); (try have v3_1 : W1.heap.size < W3.heap.size := (by have := b3.size; (try simp at this); omega)); (try have v3_2 : W2.heap.size < W3.heap.size := (by have := b3.size; (try simp at this); omega)); (try have v3_0_1 : w.heap.size + 1 < W3.heap.size := (by have := b3.size; (try simp at this); omega)); (try have v3_0_2 : w.heap.size + 1 + 1 < W3.heap.size := (by have := b3.size; (try simp at this); omega)); (have x3_0 : ¬ w.heap.size = W3.heap.size := (by omega)); (have x3_0' : ¬ W3.heap.size = w.heap.size := (by omega)); (have x3_1 : ¬ w.heap.size + 1 = W3.heap.size := (by omega)); (have x3_1' : ¬ W3.heap.size = w.heap.size + 1 := (by omega))))
    all_goals (go_wp2_with fail; go_meet; first | (have ho : Out W3 (((W3.setCell ⟨w.heap.size + 1 + 1, 0, none⟩ (.bool (r0_StepSluice a0_0 a0_1 a1_0 a1_1 a1_2 a2 a3 a4))).setCell ⟨w.heap.size + 1 + 1, 1, none⟩ (.int .i64 (r1_StepSluice a0_0 a0_1 a1_0 a1_1 a1_2 a2 a3 a4))).setCell ⟨w.heap.size + 1 + 1, 2, none⟩ (.int .i64 (r2_StepSluice a0_0 a0_1 a1_0 a1_1 a1_2 a2 a3 a4))) (w.heap.size + 1 + 1) [(.bool (r0_StepSluice a0_0 a0_1 a1_0 a1_1 a1_2 a2 a3 a4)), (.int .i64 (r1_StepSluice a0_0 a0_1 a1_0 a1_1 a1_2 a2 a3 a4)), (.int .i64 (r2_StepSluice a0_0 a0_1 a1_0 a1_1 a1_2 a2 a3 a4))] := Out.put W3 (w.heap.size + 1 + 1) [(.bool (r0_StepSluice a0_0 a0_1 a1_0 a1_1 a1_2 a2 a3 a4)), (.int .i64 (r1_StepSluice a0_0 a0_1 a1_0 a1_1 a1_2 a2 a3 a4)), (.int .i64 (r2_StepSluice a0_0 a0_1 a1_0 a1_1 a1_2 a2 a3 a4))] (by first | omega | (simp; done) | (simp; omega)) (fun i hi => match i, hi with | 0, _ => ⟨.bool false, ((b3.cell (p := ⟨w.heap.size + 1 + 1, 0, none⟩) (by first | omega | (simp; done) | (simp; omega))).trans ((b2.cell (p := ⟨w.heap.size + 1 + 1, 0, none⟩) (by first | omega | (simp; done) | (simp; omega))).trans ((b1.cell (p := ⟨w.heap.size + 1 + 1, 0, none⟩) (by first | omega | (simp; done) | (simp; omega))).trans (by first | (simp; done) | go_simp))))⟩ | 1, _ => ⟨.int .i64 0, ((b3.cell (p := ⟨w.heap.size + 1 + 1, 1, none⟩) (by first | omega | (simp; done) | (simp; omega))).trans ((b2.cell (p := ⟨w.heap.size + 1 + 1, 1, none⟩) (by first | omega | (simp; done) | (simp; omega))).trans ((b1.cell (p := ⟨w.heap.size + 1 + 1, 1, none⟩) (by first | omega | (simp; done) | (simp; omega))).trans (by first | (simp; done) | go_simp))))⟩ | 2, _ => ⟨.int .i64 0, ((b3.cell (p := ⟨w.heap.size + 1 + 1, 2, none⟩) (by first | omega | (simp; done) | (simp; omega))).trans ((b2.cell (p := ⟨w.heap.size + 1 + 1, 2, none⟩) (by first | omega | (simp; done) | (simp; omega))).trans ((b1.cell (p := ⟨w.heap.size + 1 + 1, 2, none⟩) (by first | omega | (simp; done) | (simp; omega))).trans (by first | (simp; done) | go_simp))))⟩ | n + 3, h => absurd h (by simp)); exact ⟨(((W3.setCell ⟨w.heap.size + 1 + 1, 0, none⟩ (.bool (r0_StepSluice a0_0 a0_1 a1_0 a1_1 a1_2 a2 a3 a4))).setCell ⟨w.heap.size + 1 + 1, 1, none⟩ (.int .i64 (r1_StepSluice a0_0 a0_1 a1_0 a1_1 a1_2 a2 a3 a4))).setCell ⟨w.heap.size + 1 + 1, 2, none⟩ (.int .i64 (r2_StepSluice a0_0 a0_1 a1_0 a1_1 a1_2 a2 a3 a4))), w.heap.size + 1 + 1,  rfl, rfl, rfl, (by first | omega | (simp; done) | (simp; omega)), ho.lt, ho.lt, (D3.trans (ho.below (by first | omega | (simp; done) | (simp; omega)) (by first | omega | (simp; done) | (simp; omega)))), (by have := ho.size; omega), ((ho.other 0 (by first | omega | (simp; done) | (simp; omega)) (by first | omega | (simp; done) | (simp; omega))).trans y3_5_0), ((ho.other 1 (by first | omega | (simp; done) | (simp; omega)) (by first | omega | (simp; done) | (simp; omega))).trans y3_5_1), (by have := ho.size; omega), ((ho.other 0 (by first | omega | (simp; done) | (simp; omega)) (by first | omega | (simp; done) | (simp; omega))).trans y3_6_0), ((ho.other 1 (by first | omega | (simp; done) | (simp; omega)) (by first | omega | (simp; done) | (simp; omega))).trans y3_6_1), ((ho.other 2 (by first | omega | (simp; done) | (simp; omega)) (by first | omega | (simp; done) | (simp; omega))).trans y3_6_2), (by have := ho.size; omega), (ho.at 0 rfl), (ho.at 1 rfl), (ho.at 2 rfl)⟩) | (have ho : Out W3 (((W3.setCell ⟨W1.heap.size, 0, none⟩ (.bool (r0_StepSluice a0_0 a0_1 a1_0 a1_1 a1_2 a2 a3 a4))).setCell ⟨W1.heap.size, 1, none⟩ (.int .i64 (r1_StepSluice a0_0 a0_1 a1_0 a1_1 a1_2 a2 a3 a4))).setCell ⟨W1.heap.size, 2, none⟩ (.int .i64 (r2_StepSluice a0_0 a0_1 a1_0 a1_1 a1_2 a2 a3 a4))) (W1.heap.size) [(.bool (r0_StepSluice a0_0 a0_1 a1_0 a1_1 a1_2 a2 a3 a4)), (.int .i64 (r1_StepSluice a0_0 a0_1 a1_0 a1_1 a1_2 a2 a3 a4)), (.int .i64 (r2_StepSluice a0_0 a0_1 a1_0 a1_1 a1_2 a2 a3 a4))] := Out.put W3 (W1.heap.size) [(.bool (r0_StepSluice a0_0 a0_1 a1_0 a1_1 a1_2 a2 a3 a4)), (.int .i64 (r1_StepSluice a0_0 a0_1 a1_0 a1_1 a1_2 a2 a3 a4)), (.int .i64 (r2_StepSluice a0_0 a0_1 a1_0 a1_1 a1_2 a2 a3 a4))] (by first | omega | (simp; done) | (simp; omega)) (fun i hi => match i, hi with | 0, _ => ⟨.bool false, ((b3.cell (p := ⟨W1.heap.size, 0, none⟩) (by first | omega | (simp; done) | (simp; omega))).trans ((b2.cell (p := ⟨W1.heap.size, 0, none⟩) (by first | omega | (simp; done) | (simp; omega))).trans (by first | (simp; done) | go_simp)))⟩ | 1, _ => ⟨.int .i64 0, ((b3.cell (p := ⟨W1.heap.size, 1, none⟩) (by first | omega | (simp; done) | (simp; omega))).trans ((b2.cell (p := ⟨W1.heap.size, 1, none⟩) (by first | omega | (simp; done) | (simp; omega))).trans (by first | (simp; done) | go_simp)))⟩ | 2, _ => ⟨.int .i64 0, ((b3.cell (p := ⟨W1.heap.size, 2, none⟩) (by first | omega | (simp; done) | (simp; omega))).trans ((b2.cell (p := ⟨W1.heap.size, 2, none⟩) (by first | omega | (simp; done) | (simp; omega))).trans (by first | (simp; done) | go_simp)))⟩ | n + 3, h => absurd h (by simp)); exact ⟨(((W3.setCell ⟨W1.heap.size, 0, none⟩ (.bool (r0_StepSluice a0_0 a0_1 a1_0 a1_1 a1_2 a2 a3 a4))).setCell ⟨W1.heap.size, 1, none⟩ (.int .i64 (r1_StepSluice a0_0 a0_1 a1_0 a1_1 a1_2 a2 a3 a4))).setCell ⟨W1.heap.size, 2, none⟩ (.int .i64 (r2_StepSluice a0_0 a0_1 a1_0 a1_1 a1_2 a2 a3 a4))), W1.heap.size,  rfl, rfl, rfl, (by first | omega | (simp; done) | (simp; omega)), ho.lt, ho.lt, (D3.trans (ho.below (by first | omega | (simp; done) | (simp; omega)) (by first | omega | (simp; done) | (simp; omega)))), (by have := ho.size; omega), ((ho.other 0 (by first | omega | (simp; done) | (simp; omega)) (by first | omega | (simp; done) | (simp; omega))).trans y3_5_0), ((ho.other 1 (by first | omega | (simp; done) | (simp; omega)) (by first | omega | (simp; done) | (simp; omega))).trans y3_5_1), (by have := ho.size; omega), ((ho.other 0 (by first | omega | (simp; done) | (simp; omega)) (by first | omega | (simp; done) | (simp; omega))).trans y3_6_0), ((ho.other 1 (by first | omega | (simp; done) | (simp; omega)) (by first | omega | (simp; done) | (simp; omega))).trans y3_6_1), ((ho.other 2 (by first | omega | (simp; done) | (simp; omega)) (by first | omega | (simp; done) | (simp; omega))).trans y3_6_2), (by have := ho.size; omega), (ho.at 0 rfl), (ho.at 1 rfl), (ho.at 2 rfl)⟩) | (have ho : Out W3 (((W3.setCell ⟨W2.heap.size, 0, none⟩ (.bool (r0_StepSluice a0_0 a0_1 a1_0 a1_1 a1_2 a2 a3 a4))).setCell ⟨W2.heap.size, 1, none⟩ (.int .i64 (r1_StepSluice a0_0 a0_1 a1_0 a1_1 a1_2 a2 a3 a4))).setCell ⟨W2.heap.size, 2, none⟩ (.int .i64 (r2_StepSluice a0_0 a0_1 a1_0 a1_1 a1_2 a2 a3 a4))) (W2.heap.size) [(.bool (r0_StepSluice a0_0 a0_1 a1_0 a1_1 a1_2 a2 a3 a4)), (.int .i64 (r1_StepSluice a0_0 a0_1 a1_0 a1_1 a1_2 a2 a3 a4)), (.int .i64 (r2_StepSluice a0_0 a0_1 a1_0 a1_1 a1_2 a2 a3 a4))] := Out.put W3 (W2.heap.size) [(.bool (r0_StepSluice a0_0 a0_1 a1_0 a1_1 a1_2 a2 a3 a4)), (.int .i64 (r1_StepSluice a0_0 a0_1 a1_0 a1_1 a1_2 a2 a3 a4)), (.int .i64 (r2_StepSluice a0_0 a0_1 a1_0 a1_1 a1_2 a2 a3 a4))] (by first | omega | (simp; done) | (simp; omega)) (fun i hi => match i, hi with | 0, _ => ⟨.bool false, ((b3.cell (p := ⟨W2.heap.size, 0, none⟩) (by first | omega | (simp; done) | (simp; omega))).trans (by first | (simp; done) | go_simp))⟩ | 1, _ => ⟨.int .i64 0, ((b3.cell (p := ⟨W2.heap.size, 1, none⟩) (by first | omega | (simp; done) | (simp; omega))).trans (by first | (simp; done) | go_simp))⟩ | 2, _ => ⟨.int .i64 0, ((b3.cell (p := ⟨W2.heap.size, 2, none⟩) (by first | omega | (simp; done) | (simp; omega))).trans (by first | (simp; done) | go_simp))⟩ | n + 3, h => absurd h (by simp)); exact ⟨(((W3.setCell ⟨W2.heap.size, 0, none⟩ (.bool (r0_StepSluice a0_0 a0_1 a1_0 a1_1 a1_2 a2 a3 a4))).setCell ⟨W2.heap.size, 1, none⟩ (.int .i64 (r1_StepSluice a0_0 a0_1 a1_0 a1_1 a1_2 a2 a3 a4))).setCell ⟨W2.heap.size, 2, none⟩ (.int .i64 (r2_StepSluice a0_0 a0_1 a1_0 a1_1 a1_2 a2 a3 a4))), W2.heap.size,  rfl, rfl, rfl, (by first | omega | (simp; done) | (simp; omega)), ho.lt, ho.lt, (D3.trans (ho.below (by first | omega | (simp; done) | (simp; omega)) (by first | omega | (simp; done) | (simp; omega)))), (by have := ho.size; omega), ((ho.other 0 (by first | omega | (simp; done) | (simp; omega)) (by first | omega | (simp; done) | (simp; omega))).trans y3_5_0), ((ho.other 1 (by first | omega | (simp; done) | (simp; omega)) (by first | omega | (simp; done) | (simp; omega))).trans y3_5_1), (by have := ho.size; omega), ((ho.other 0 (by first | omega | (simp; done) | (simp; omega)) (by first | omega | (simp; done) | (simp; omega))).trans y3_6_0), ((ho.other 1 (by first | omega | (simp; done) | (simp; omega)) (by first | omega | (simp; done) | (simp; omega))).trans y3_6_1), ((ho.other 2 (by first | omega | (simp; done) | (simp; omega)) (by first | omega | (simp; done) | (simp; omega))).trans y3_6_2), (by have := ho.size; omega), (ho.at 0 rfl), (ho.at 1 rfl), (ho.at 2 rfl)⟩) | (have ho : Out W3 (W3.alloc (.cells #[(.bool (r0_StepSluice a0_0 a0_1 a1_0 a1_1 a1_2 a2 a3 a4)), (.int .i64 (r1_StepSluice a0_0 a0_1 a1_0 a1_1 a1_2 a2 a3 a4)), (.int .i64 (r2_StepSluice a0_0 a0_1 a1_0 a1_1 a1_2 a2 a3 a4))] 31)) (W3.heap.size) [(.bool (r0_StepSluice a0_0 a0_1 a1_0 a1_1 a1_2 a2 a3 a4)), (.int .i64 (r1_StepSluice a0_0 a0_1 a1_0 a1_1 a1_2 a2 a3 a4)), (.int .i64 (r2_StepSluice a0_0 a0_1 a1_0 a1_1 a1_2 a2 a3 a4))] := Out.new W3 [(.bool (r0_StepSluice a0_0 a0_1 a1_0 a1_1 a1_2 a2 a3 a4)), (.int .i64 (r1_StepSluice a0_0 a0_1 a1_0 a1_1 a1_2 a2 a3 a4)), (.int .i64 (r2_StepSluice a0_0 a0_1 a1_0 a1_1 a1_2 a2 a3 a4))] 31; exact ⟨(W3.alloc (.cells #[(.bool (r0_StepSluice a0_0 a0_1 a1_0 a1_1 a1_2 a2 a3 a4)), (.int .i64 (r1_StepSluice a0_0 a0_1 a1_0 a1_1 a1_2 a2 a3 a4)), (.int .i64 (r2_StepSluice a0_0 a0_1 a1_0 a1_1 a1_2 a2 a3 a4))] 31)), W3.heap.size,  rfl, rfl, rfl, (by first | omega | (simp; done) | (simp; omega)), ho.lt, ho.lt, (D3.trans (ho.below (by first | omega | (simp; done) | (simp; omega)) (by first | omega | (simp; done) | (simp; omega)))), (by have := ho.size; omega), ((ho.other 0 (by first | omega | (simp; done) | (simp; omega)) (by first | omega | (simp; done) | (simp; omega))).trans y3_5_0), ((ho.other 1 (by first | omega | (simp; done) | (simp; omega)) (by first | omega | (simp; done) | (simp; omega))).trans y3_5_1), (by have := ho.size; omega), ((ho.other 0 (by first | omega | (simp; done) | (simp; omega)) (by first | omega | (simp; done) | (simp; omega))).trans y3_6_0), ((ho.other 1 (by first | omega | (simp; done) | (simp; omega)) (by first | omega | (simp; done) | (simp; omega))).trans y3_6_1), ((ho.other 2 (by first | omega | (simp; done) | (simp; omega)) (by first | omega | (simp; done) | (simp; omega))).trans y3_6_2), (by have := ho.size; omega), (ho.at 0 rfl), (ho.at 1 rfl), (ho.at 2 rfl)⟩))
  case rest =>
  obtain ⟨W4, g1,  rfl, rfl, rfl, hg1a, hg1b, n4_11, D4, s4, y4_5_0, y4_5_1, n4_5, y4_6_0, y4_6_1, y4_6_2, n4_6, y4_11_0, y4_11_1, y4_11_2⟩ := hcut
  skip
  try clear x1_0
  try clear x1_0'
  try clear x1_1
  try clear x1_1'
  try clear d1
  try clear D1
  try clear y1_5_0
  try clear y1_5_1
  try clear n1_5
  try clear y1_6_0
  try clear y1_6_1
  try clear y1_6_2
  try clear n1_6
  try clear v1_0
  try clear v1_0_1
  try clear v1_0_2
  try clear d2
  try clear D2
  try clear y2_5_0
  try clear y2_5_1
  try clear n2_5
  try clear y2_6_0
  try clear y2_6_1
  try clear y2_6_2
  try clear n2_6
  try clear v2_0
  try clear v2_1
  try clear v2_0_1
  try clear v2_0_2
  try clear x2_0
  try clear x2_0'
  try clear x2_1
  try clear x2_1'
  try clear d3
  try clear D3
  try clear y3_5_0
  try clear y3_5_1
  try clear n3_5
  try clear y3_6_0
  try clear y3_6_1
  try clear y3_6_2
  try clear n3_6
  try clear v3_0
  try clear v3_1
  try clear v3_2
  try clear v3_0_1
  try clear v3_0_2
  try clear x3_0
  try clear x3_0'
  try clear x3_1
  try clear x3_1'
  try clear b1
  try clear b2
  try clear b3
  have x2_0 : ¬ w.heap.size = W4.heap.size := by omega
  have x2_0' : ¬ W4.heap.size = w.heap.size := by omega
  have x2_1 : ¬ w.heap.size + 1 = W4.heap.size := by omega
  have x2_1' : ¬ W4.heap.size = w.heap.size + 1 := by omega
  go_upto_region 2 with fail
  go_cut [13, 14] (fun s13 s14 W8' => ∃ (W8 : World) (g2 : Nat) , W8 = W8' ∧ s13 = .pointer (some ⟨g2, 0, none⟩) ∧ s14 = .int .i64 (r3_StepSluice a0_0 a0_1 a1_0 a1_1 a1_2 a2 a3 a4) ∧ W4.heap.size ≤ g2 ∧ g2 < W8.heap.size ∧ g2 < W8.heap.size ∧ Below w.heap.size w W8 ∧ W4.heap.size + 0 ≤ W8.heap.size ∧ W8.cell? ⟨g1, 0, none⟩ = some (.bool (r0_StepSluice a0_0 a0_1 a1_0 a1_1 a1_2 a2 a3 a4)) ∧ W8.cell? ⟨g1, 1, none⟩ = some (.int .i64 (r1_StepSluice a0_0 a0_1 a1_0 a1_1 a1_2 a2 a3 a4)) ∧ W8.cell? ⟨g1, 2, none⟩ = some (.int .i64 (r2_StepSluice a0_0 a0_1 a1_0 a1_1 a1_2 a2 a3 a4)) ∧ g1 < W8.heap.size ∧ W8.cell? ⟨g2, 0, none⟩ = some (.bool (r0_StepSluice a0_0 a0_1 a1_0 a1_1 a1_2 a2 a3 a4)) ∧ W8.cell? ⟨g2, 1, none⟩ = some (.int .i64 (r1_StepSluice a0_0 a0_1 a1_0 a1_1 a1_2 a2 a3 a4)) ∧ W8.cell? ⟨g2, 2, none⟩ = some (.int .i64 (r2_StepSluice a0_0 a0_1 a1_0 a1_1 a1_2 a2 a3 a4)))
  case first =>
    go_region_held3 (fun w' => w'.cell? ⟨w.heap.size, 0, none⟩ = some (.int .i64 a0_0) ∧ w'.cell? ⟨w.heap.size, 1, none⟩ = some (.int .i64 a0_1) ∧ w'.cell? ⟨w.heap.size + 1, 0, none⟩ = some (.bool a1_0) ∧ w'.cell? ⟨w.heap.size + 1, 1, none⟩ = some (.int .i64 a1_1) ∧ w'.cell? ⟨w.heap.size + 1, 2, none⟩ = some (.int .i64 a1_2)) (first | ((refine ⟨?_, ?_, ?_, ?_, ?_⟩ <;> (repeat (first | (with_reducible assumption) | (with_reducible refine keepA ?_) | (with_reducible refine keepD ?_) | ((with_reducible refine keep1 ?_ ?_); rotate_left 1; omega) | (simp; done)))); done) | go_keep) (first | (go_at_call 10; refine (toSluice_x _ _ _ ).mono ?_; rintro e5 W5 ⟨rfl, b5⟩; obtain ⟨k5, f5⟩ := bcell b5; (have s5 : W4.heap.size + 0 ≤ W5.heap.size := by have := b5.size; (try simp at this); omega); (have d5 : Below W4.heap.size W4 W5 := (by repeat (first | assumption | exact Below.refl _ _ | (refine Below.trans ?_ (b5.mono (by first | omega | (simp; done) | (simp; omega)))) | (refine Below.setCell ?_ (by first | omega | (simp; done) | (simp; omega)) _) | apply below_drewN | apply Below.drew | (refine Below.alloc ?_ (by first | omega | (simp; done) | (simp; omega)) _)))); (have D5 : Below w.heap.size w W5 := Below.trans D4 (d5.mono (by omega))); (have y5_5_0 : W5.cell? ⟨w.heap.size, 0, none⟩ = some (.int .i64 a0_0) := (d5.cell (p := ⟨w.heap.size, 0, none⟩) (show w.heap.size < W4.heap.size by omega)).trans y4_5_0); (have y5_5_1 : W5.cell? ⟨w.heap.size, 1, none⟩ = some (.int .i64 a0_1) := (d5.cell (p := ⟨w.heap.size, 1, none⟩) (show w.heap.size < W4.heap.size by omega)).trans y4_5_1); (have n5_5 : w.heap.size < W5.heap.size := by omega); (have y5_6_0 : W5.cell? ⟨w.heap.size + 1, 0, none⟩ = some (.bool a1_0) := (d5.cell (p := ⟨w.heap.size + 1, 0, none⟩) (show w.heap.size + 1 < W4.heap.size by omega)).trans y4_6_0); (have y5_6_1 : W5.cell? ⟨w.heap.size + 1, 1, none⟩ = some (.int .i64 a1_1) := (d5.cell (p := ⟨w.heap.size + 1, 1, none⟩) (show w.heap.size + 1 < W4.heap.size by omega)).trans y4_6_1); (have y5_6_2 : W5.cell? ⟨w.heap.size + 1, 2, none⟩ = some (.int .i64 a1_2) := (d5.cell (p := ⟨w.heap.size + 1, 2, none⟩) (show w.heap.size + 1 < W4.heap.size by omega)).trans y4_6_2); (have n5_6 : w.heap.size + 1 < W5.heap.size := by omega); (have y5_11_0 : W5.cell? ⟨g1, 0, none⟩ = some (.bool (r0_StepSluice a0_0 a0_1 a1_0 a1_1 a1_2 a2 a3 a4)) := (d5.cell (p := ⟨g1, 0, none⟩) (show g1 < W4.heap.size by omega)).trans y4_11_0); (have y5_11_1 : W5.cell? ⟨g1, 1, none⟩ = some (.int .i64 (r1_StepSluice a0_0 a0_1 a1_0 a1_1 a1_2 a2 a3 a4)) := (d5.cell (p := ⟨g1, 1, none⟩) (show g1 < W4.heap.size by omega)).trans y4_11_1); (have y5_11_2 : W5.cell? ⟨g1, 2, none⟩ = some (.int .i64 (r2_StepSluice a0_0 a0_1 a1_0 a1_1 a1_2 a2 a3 a4)) := (d5.cell (p := ⟨g1, 2, none⟩) (show g1 < W4.heap.size by omega)).trans y4_11_2); (have n5_11 : g1 < W5.heap.size := by omega); clear y4_5_0 y4_5_1 n4_5 y4_6_0 y4_6_1 y4_6_2 n4_6 y4_11_0 y4_11_1 y4_11_2 n4_11; (try have v5_0 : W4.heap.size < W5.heap.size := (by have := b5.size; (try simp at this); omega)); (have x5_0 : ¬ w.heap.size = W5.heap.size := (by omega)); (have x5_0' : ¬ W5.heap.size = w.heap.size := (by omega)); (have x5_1 : ¬ w.heap.size + 1 = W5.heap.size := (by omega)); (have x5_1' : ¬ W5.heap.size = w.heap.size + 1 := (by omega))) | (go_at_call 13; refine (toGate_x _ _ _ _ ).mono ?_; rintro e6 W6 ⟨rfl, b6⟩; obtain ⟨k6, f6⟩ := bcell b6; (have s6 : W5.heap.size + 0 ≤ W6.heap.size := by have := b6.size; (try simp at this); omega); (have d6 : Below W5.heap.size W5 W6 := (by repeat (first | assumption | exact Below.refl _ _ | (refine Below.trans ?_ (b6.mono (by first | omega | (simp; done) | (simp; omega)))) | (refine Below.setCell ?_ (by first | omega | (simp; done) | (simp; omega)) _) | apply below_drewN | apply Below.drew | (refine Below.alloc ?_ (by first | omega | (simp; done) | (simp; omega)) _)))); (have D6 : Below w.heap.size w W6 := Below.trans D5 (d6.mono (by omega))); (have y6_5_0 : W6.cell? ⟨w.heap.size, 0, none⟩ = some (.int .i64 a0_0) := (d6.cell (p := ⟨w.heap.size, 0, none⟩) (show w.heap.size < W5.heap.size by omega)).trans y5_5_0); (have y6_5_1 : W6.cell? ⟨w.heap.size, 1, none⟩ = some (.int .i64 a0_1) := (d6.cell (p := ⟨w.heap.size, 1, none⟩) (show w.heap.size < W5.heap.size by omega)).trans y5_5_1); (have n6_5 : w.heap.size < W6.heap.size := by omega); (have y6_6_0 : W6.cell? ⟨w.heap.size + 1, 0, none⟩ = some (.bool a1_0) := (d6.cell (p := ⟨w.heap.size + 1, 0, none⟩) (show w.heap.size + 1 < W5.heap.size by omega)).trans y5_6_0); (have y6_6_1 : W6.cell? ⟨w.heap.size + 1, 1, none⟩ = some (.int .i64 a1_1) := (d6.cell (p := ⟨w.heap.size + 1, 1, none⟩) (show w.heap.size + 1 < W5.heap.size by omega)).trans y5_6_1); (have y6_6_2 : W6.cell? ⟨w.heap.size + 1, 2, none⟩ = some (.int .i64 a1_2) := (d6.cell (p := ⟨w.heap.size + 1, 2, none⟩) (show w.heap.size + 1 < W5.heap.size by omega)).trans y5_6_2); (have n6_6 : w.heap.size + 1 < W6.heap.size := by omega); (have y6_11_0 : W6.cell? ⟨g1, 0, none⟩ = some (.bool (r0_StepSluice a0_0 a0_1 a1_0 a1_1 a1_2 a2 a3 a4)) := (d6.cell (p := ⟨g1, 0, none⟩) (show g1 < W5.heap.size by omega)).trans y5_11_0); (have y6_11_1 : W6.cell? ⟨g1, 1, none⟩ = some (.int .i64 (r1_StepSluice a0_0 a0_1 a1_0 a1_1 a1_2 a2 a3 a4)) := (d6.cell (p := ⟨g1, 1, none⟩) (show g1 < W5.heap.size by omega)).trans y5_11_1); (have y6_11_2 : W6.cell? ⟨g1, 2, none⟩ = some (.int .i64 (r2_StepSluice a0_0 a0_1 a1_0 a1_1 a1_2 a2 a3 a4)) := (d6.cell (p := ⟨g1, 2, none⟩) (show g1 < W5.heap.size by omega)).trans y5_11_2); (have n6_11 : g1 < W6.heap.size := by omega); clear y5_5_0 y5_5_1 n5_5 y5_6_0 y5_6_1 y5_6_2 n5_6 y5_11_0 y5_11_1 y5_11_2 n5_11; (try have v6_0 : W4.heap.size < W6.heap.size := (by have := b6.size; (try simp at this); omega)); (try have v6_1 : W5.heap.size < W6.heap.size := (by have := b6.size; (try simp at this); omega)); (have x6_0 : ¬ w.heap.size = W6.heap.size := (by omega)); (have x6_0' : ¬ W6.heap.size = w.heap.size := (by omega)); (have x6_1 : ¬ w.heap.size + 1 = W6.heap.size := (by omega)); (have x6_1' : ¬ W6.heap.size = w.heap.size + 1 := (by omega))) | (go_at_call 14; refine (implC_StepSluice _ _ _ _ _ _ _ _ _ ha0_0 ha0_1 ha1_1 ha1_2 ha2 ha3 ha4).mono ?_; rintro e7 W7 ⟨rfl, b7⟩; obtain ⟨k7, f7⟩ := bcell b7; (have s7 : W6.heap.size + 0 ≤ W7.heap.size := by have := b7.size; (try simp at this); omega); (have d7 : Below W6.heap.size W6 W7 := (by repeat (first | assumption | exact Below.refl _ _ | (refine Below.trans ?_ (b7.mono (by first | omega | (simp; done) | (simp; omega)))) | (refine Below.setCell ?_ (by first | omega | (simp; done) | (simp; omega)) _) | apply below_drewN | apply Below.drew | (refine Below.alloc ?_ (by first | omega | (simp; done) | (simp; omega)) _)))); (have D7 : Below w.heap.size w W7 := Below.trans D6 (d7.mono (by omega))); (have y7_5_0 : W7.cell? ⟨w.heap.size, 0, none⟩ = some (.int .i64 a0_0) := (d7.cell (p := ⟨w.heap.size, 0, none⟩) (show w.heap.size < W6.heap.size by omega)).trans y6_5_0); (have y7_5_1 : W7.cell? ⟨w.heap.size, 1, none⟩ = some (.int .i64 a0_1) := (d7.cell (p := ⟨w.heap.size, 1, none⟩) (show w.heap.size < W6.heap.size by omega)).trans y6_5_1); (have n7_5 : w.heap.size < W7.heap.size := by omega); (have y7_6_0 : W7.cell? ⟨w.heap.size + 1, 0, none⟩ = some (.bool a1_0) := (d7.cell (p := ⟨w.heap.size + 1, 0, none⟩) (show w.heap.size + 1 < W6.heap.size by omega)).trans y6_6_0); (have y7_6_1 : W7.cell? ⟨w.heap.size + 1, 1, none⟩ = some (.int .i64 a1_1) := (d7.cell (p := ⟨w.heap.size + 1, 1, none⟩) (show w.heap.size + 1 < W6.heap.size by omega)).trans y6_6_1); (have y7_6_2 : W7.cell? ⟨w.heap.size + 1, 2, none⟩ = some (.int .i64 a1_2) := (d7.cell (p := ⟨w.heap.size + 1, 2, none⟩) (show w.heap.size + 1 < W6.heap.size by omega)).trans y6_6_2); (have n7_6 : w.heap.size + 1 < W7.heap.size := by omega); (have y7_11_0 : W7.cell? ⟨g1, 0, none⟩ = some (.bool (r0_StepSluice a0_0 a0_1 a1_0 a1_1 a1_2 a2 a3 a4)) := (d7.cell (p := ⟨g1, 0, none⟩) (show g1 < W6.heap.size by omega)).trans y6_11_0); (have y7_11_1 : W7.cell? ⟨g1, 1, none⟩ = some (.int .i64 (r1_StepSluice a0_0 a0_1 a1_0 a1_1 a1_2 a2 a3 a4)) := (d7.cell (p := ⟨g1, 1, none⟩) (show g1 < W6.heap.size by omega)).trans y6_11_1); (have y7_11_2 : W7.cell? ⟨g1, 2, none⟩ = some (.int .i64 (r2_StepSluice a0_0 a0_1 a1_0 a1_1 a1_2 a2 a3 a4)) := (d7.cell (p := ⟨g1, 2, none⟩) (show g1 < W6.heap.size by omega)).trans y6_11_2); (have n7_11 : g1 < W7.heap.size := by omega); clear y6_5_0 y6_5_1 n6_5 y6_6_0 y6_6_1 y6_6_2 n6_6 y6_11_0 y6_11_1 y6_11_2 n6_11; (try have v7_0 : W4.heap.size < W7.heap.size := (by have := b7.size; (try simp at this); omega)); (try have v7_1 : W5.heap.size < W7.heap.size := (by have := b7.size; (try simp at this); omega)); (try have v7_2 : W6.heap.size < W7.heap.size := (by have := b7.size; (try simp at this); omega)); (have x7_0 : ¬ w.heap.size = W7.heap.size := (by omega)); (have x7_0' : ¬ W7.heap.size = w.heap.size := (by omega)); (have x7_1 : ¬ w.heap.size + 1 = W7.heap.size := (by omega)); (have x7_1' : ¬ W7.heap.size = w.heap.size + 1 := (by omega))))
    all_goals (go_wp2_with fail; go_meet; first | (have ho : Out W7 (((W7.setCell ⟨W4.heap.size, 0, none⟩ (.bool (r0_StepSluice a0_0 a0_1 a1_0 a1_1 a1_2 a2 a3 a4))).setCell ⟨W4.heap.size, 1, none⟩ (.int .i64 (r1_StepSluice a0_0 a0_1 a1_0 a1_1 a1_2 a2 a3 a4))).setCell ⟨W4.heap.size, 2, none⟩ (.int .i64 (r2_StepSluice a0_0 a0_1 a1_0 a1_1 a1_2 a2 a3 a4))) (W4.heap.size) [(.bool (r0_StepSluice a0_0 a0_1 a1_0 a1_1 a1_2 a2 a3 a4)), (.int .i64 (r1_StepSluice a0_0 a0_1 a1_0 a1_1 a1_2 a2 a3 a4)), (.int .i64 (r2_StepSluice a0_0 a0_1 a1_0 a1_1 a1_2 a2 a3 a4))] := Out.put W7 (W4.heap.size) [(.bool (r0_StepSluice a0_0 a0_1 a1_0 a1_1 a1_2 a2 a3 a4)), (.int .i64 (r1_StepSluice a0_0 a0_1 a1_0 a1_1 a1_2 a2 a3 a4)), (.int .i64 (r2_StepSluice a0_0 a0_1 a1_0 a1_1 a1_2 a2 a3 a4))] (by first | omega | (simp; done) | (simp; omega)) (fun i hi => match i, hi with | 0, _ => ⟨.bool false, ((b7.cell (p := ⟨W4.heap.size, 0, none⟩) (by first | omega | (simp; done) | (simp; omega))).trans ((b6.cell (p := ⟨W4.heap.size, 0, none⟩) (by first | omega | (simp; done) | (simp; omega))).trans ((b5.cell (p := ⟨W4.heap.size, 0, none⟩) (by first | omega | (simp; done) | (simp; omega))).trans (by first | (simp; done) | go_simp))))⟩ | 1, _ => ⟨.int .i64 0, ((b7.cell (p := ⟨W4.heap.size, 1, none⟩) (by first | omega | (simp; done) | (simp; omega))).trans ((b6.cell (p := ⟨W4.heap.size, 1, none⟩) (by first | omega | (simp; done) | (simp; omega))).trans ((b5.cell (p := ⟨W4.heap.size, 1, none⟩) (by first | omega | (simp; done) | (simp; omega))).trans (by first | (simp; done) | go_simp))))⟩ | 2, _ => ⟨.int .i64 0, ((b7.cell (p := ⟨W4.heap.size, 2, none⟩) (by first | omega | (simp; done) | (simp; omega))).trans ((b6.cell (p := ⟨W4.heap.size, 2, none⟩) (by first | omega | (simp; done) | (simp; omega))).trans ((b5.cell (p := ⟨W4.heap.size, 2, none⟩) (by first | omega | (simp; done) | (simp; omega))).trans (by first | (simp; done) | go_simp))))⟩ | n + 3, h => absurd h (by simp)); exact ⟨(((W7.setCell ⟨W4.heap.size, 0, none⟩ (.bool (r0_StepSluice a0_0 a0_1 a1_0 a1_1 a1_2 a2 a3 a4))).setCell ⟨W4.heap.size, 1, none⟩ (.int .i64 (r1_StepSluice a0_0 a0_1 a1_0 a1_1 a1_2 a2 a3 a4))).setCell ⟨W4.heap.size, 2, none⟩ (.int .i64 (r2_StepSluice a0_0 a0_1 a1_0 a1_1 a1_2 a2 a3 a4))), W4.heap.size,  rfl, rfl, rfl, (by first | omega | (simp; done) | (simp; omega)), ho.lt, ho.lt, (D7.trans (ho.below (by first | omega | (simp; done) | (simp; omega)) (by first | omega | (simp; done) | (simp; omega)))), (by have := ho.size; omega), ((ho.other 0 (by first | omega | (simp; done) | (simp; omega)) (by first | omega | (simp; done) | (simp; omega))).trans y7_11_0), ((ho.other 1 (by first | omega | (simp; done) | (simp; omega)) (by first | omega | (simp; done) | (simp; omega))).trans y7_11_1), ((ho.other 2 (by first | omega | (simp; done) | (simp; omega)) (by first | omega | (simp; done) | (simp; omega))).trans y7_11_2), (by have := ho.size; omega), (ho.at 0 rfl), (ho.at 1 rfl), (ho.at 2 rfl)⟩) | (have ho : Out W7 (((W7.setCell ⟨W5.heap.size, 0, none⟩ (.bool (r0_StepSluice a0_0 a0_1 a1_0 a1_1 a1_2 a2 a3 a4))).setCell ⟨W5.heap.size, 1, none⟩ (.int .i64 (r1_StepSluice a0_0 a0_1 a1_0 a1_1 a1_2 a2 a3 a4))).setCell ⟨W5.heap.size, 2, none⟩ (.int .i64 (r2_StepSluice a0_0 a0_1 a1_0 a1_1 a1_2 a2 a3 a4))) (W5.heap.size) [(.bool (r0_StepSluice a0_0 a0_1 a1_0 a1_1 a1_2 a2 a3 a4)), (.int .i64 (r1_StepSluice a0_0 a0_1 a1_0 a1_1 a1_2 a2 a3 a4)), (.int .i64 (r2_StepSluice a0_0 a0_1 a1_0 a1_1 a1_2 a2 a3 a4))] := Out.put W7 (W5.heap.size) [(.bool (r0_StepSluice a0_0 a0_1 a1_0 a1_1 a1_2 a2 a3 a4)), (.int .i64 (r1_StepSluice a0_0 a0_1 a1_0 a1_1 a1_2 a2 a3 a4)), (.int .i64 (r2_StepSluice a0_0 a0_1 a1_0 a1_1 a1_2 a2 a3 a4))] (by first | omega | (simp; done) | (simp; omega)) (fun i hi => match i, hi with | 0, _ => ⟨.bool false, ((b7.cell (p := ⟨W5.heap.size, 0, none⟩) (by first | omega | (simp; done) | (simp; omega))).trans ((b6.cell (p := ⟨W5.heap.size, 0, none⟩) (by first | omega | (simp; done) | (simp; omega))).trans (by first | (simp; done) | go_simp)))⟩ | 1, _ => ⟨.int .i64 0, ((b7.cell (p := ⟨W5.heap.size, 1, none⟩) (by first | omega | (simp; done) | (simp; omega))).trans ((b6.cell (p := ⟨W5.heap.size, 1, none⟩) (by first | omega | (simp; done) | (simp; omega))).trans (by first | (simp; done) | go_simp)))⟩ | 2, _ => ⟨.int .i64 0, ((b7.cell (p := ⟨W5.heap.size, 2, none⟩) (by first | omega | (simp; done) | (simp; omega))).trans ((b6.cell (p := ⟨W5.heap.size, 2, none⟩) (by first | omega | (simp; done) | (simp; omega))).trans (by first | (simp; done) | go_simp)))⟩ | n + 3, h => absurd h (by simp)); exact ⟨(((W7.setCell ⟨W5.heap.size, 0, none⟩ (.bool (r0_StepSluice a0_0 a0_1 a1_0 a1_1 a1_2 a2 a3 a4))).setCell ⟨W5.heap.size, 1, none⟩ (.int .i64 (r1_StepSluice a0_0 a0_1 a1_0 a1_1 a1_2 a2 a3 a4))).setCell ⟨W5.heap.size, 2, none⟩ (.int .i64 (r2_StepSluice a0_0 a0_1 a1_0 a1_1 a1_2 a2 a3 a4))), W5.heap.size,  rfl, rfl, rfl, (by first | omega | (simp; done) | (simp; omega)), ho.lt, ho.lt, (D7.trans (ho.below (by first | omega | (simp; done) | (simp; omega)) (by first | omega | (simp; done) | (simp; omega)))), (by have := ho.size; omega), ((ho.other 0 (by first | omega | (simp; done) | (simp; omega)) (by first | omega | (simp; done) | (simp; omega))).trans y7_11_0), ((ho.other 1 (by first | omega | (simp; done) | (simp; omega)) (by first | omega | (simp; done) | (simp; omega))).trans y7_11_1), ((ho.other 2 (by first | omega | (simp; done) | (simp; omega)) (by first | omega | (simp; done) | (simp; omega))).trans y7_11_2), (by have := ho.size; omega), (ho.at 0 rfl), (ho.at 1 rfl), (ho.at 2 rfl)⟩) | (have ho : Out W7 (((W7.setCell ⟨W6.heap.size, 0, none⟩ (.bool (r0_StepSluice a0_0 a0_1 a1_0 a1_1 a1_2 a2 a3 a4))).setCell ⟨W6.heap.size, 1, none⟩ (.int .i64 (r1_StepSluice a0_0 a0_1 a1_0 a1_1 a1_2 a2 a3 a4))).setCell ⟨W6.heap.size, 2, none⟩ (.int .i64 (r2_StepSluice a0_0 a0_1 a1_0 a1_1 a1_2 a2 a3 a4))) (W6.heap.size) [(.bool (r0_StepSluice a0_0 a0_1 a1_0 a1_1 a1_2 a2 a3 a4)), (.int .i64 (r1_StepSluice a0_0 a0_1 a1_0 a1_1 a1_2 a2 a3 a4)), (.int .i64 (r2_StepSluice a0_0 a0_1 a1_0 a1_1 a1_2 a2 a3 a4))] := Out.put W7 (W6.heap.size) [(.bool (r0_StepSluice a0_0 a0_1 a1_0 a1_1 a1_2 a2 a3 a4)), (.int .i64 (r1_StepSluice a0_0 a0_1 a1_0 a1_1 a1_2 a2 a3 a4)), (.int .i64 (r2_StepSluice a0_0 a0_1 a1_0 a1_1 a1_2 a2 a3 a4))] (by first | omega | (simp; done) | (simp; omega)) (fun i hi => match i, hi with | 0, _ => ⟨.bool false, ((b7.cell (p := ⟨W6.heap.size, 0, none⟩) (by first | omega | (simp; done) | (simp; omega))).trans (by first | (simp; done) | go_simp))⟩ | 1, _ => ⟨.int .i64 0, ((b7.cell (p := ⟨W6.heap.size, 1, none⟩) (by first | omega | (simp; done) | (simp; omega))).trans (by first | (simp; done) | go_simp))⟩ | 2, _ => ⟨.int .i64 0, ((b7.cell (p := ⟨W6.heap.size, 2, none⟩) (by first | omega | (simp; done) | (simp; omega))).trans (by first | (simp; done) | go_simp))⟩ | n + 3, h => absurd h (by simp)); exact ⟨(((W7.setCell ⟨W6.heap.size, 0, none⟩ (.bool (r0_StepSluice a0_0 a0_1 a1_0 a1_1 a1_2 a2 a3 a4))).setCell ⟨W6.heap.size, 1, none⟩ (.int .i64 (r1_StepSluice a0_0 a0_1 a1_0 a1_1 a1_2 a2 a3 a4))).setCell ⟨W6.heap.size, 2, none⟩ (.int .i64 (r2_StepSluice a0_0 a0_1 a1_0 a1_1 a1_2 a2 a3 a4))), W6.heap.size,  rfl, rfl, rfl, (by first | omega | (simp; done) | (simp; omega)), ho.lt, ho.lt, (D7.trans (ho.below (by first | omega | (simp; done) | (simp; omega)) (by first | omega | (simp; done) | (simp; omega)))), (by have := ho.size; omega), ((ho.other 0 (by first | omega | (simp; done) | (simp; omega)) (by first | omega | (simp; done) | (simp; omega))).trans y7_11_0), ((ho.other 1 (by first | omega | (simp; done) | (simp; omega)) (by first | omega | (simp; done) | (simp; omega))).trans y7_11_1), ((ho.other 2 (by first | omega | (simp; done) | (simp; omega)) (by first | omega | (simp; done) | (simp; omega))).trans y7_11_2), (by have := ho.size; omega), (ho.at 0 rfl), (ho.at 1 rfl), (ho.at 2 rfl)⟩) | (have ho : Out W7 (W7.alloc (.cells #[(.bool (r0_StepSluice a0_0 a0_1 a1_0 a1_1 a1_2 a2 a3 a4)), (.int .i64 (r1_StepSluice a0_0 a0_1 a1_0 a1_1 a1_2 a2 a3 a4)), (.int .i64 (r2_StepSluice a0_0 a0_1 a1_0 a1_1 a1_2 a2 a3 a4))] 31)) (W7.heap.size) [(.bool (r0_StepSluice a0_0 a0_1 a1_0 a1_1 a1_2 a2 a3 a4)), (.int .i64 (r1_StepSluice a0_0 a0_1 a1_0 a1_1 a1_2 a2 a3 a4)), (.int .i64 (r2_StepSluice a0_0 a0_1 a1_0 a1_1 a1_2 a2 a3 a4))] := Out.new W7 [(.bool (r0_StepSluice a0_0 a0_1 a1_0 a1_1 a1_2 a2 a3 a4)), (.int .i64 (r1_StepSluice a0_0 a0_1 a1_0 a1_1 a1_2 a2 a3 a4)), (.int .i64 (r2_StepSluice a0_0 a0_1 a1_0 a1_1 a1_2 a2 a3 a4))] 31; exact ⟨(W7.alloc (.cells #[(.bool (r0_StepSluice a0_0 a0_1 a1_0 a1_1 a1_2 a2 a3 a4)), (.int .i64 (r1_StepSluice a0_0 a0_1 a1_0 a1_1 a1_2 a2 a3 a4)), (.int .i64 (r2_StepSluice a0_0 a0_1 a1_0 a1_1 a1_2 a2 a3 a4))] 31)), W7.heap.size,  rfl, rfl, rfl, (by first | omega | (simp; done) | (simp; omega)), ho.lt, ho.lt, (D7.trans (ho.below (by first | omega | (simp; done) | (simp; omega)) (by first | omega | (simp; done) | (simp; omega)))), (by have := ho.size; omega), ((ho.other 0 (by first | omega | (simp; done) | (simp; omega)) (by first | omega | (simp; done) | (simp; omega))).trans y7_11_0), ((ho.other 1 (by first | omega | (simp; done) | (simp; omega)) (by first | omega | (simp; done) | (simp; omega))).trans y7_11_1), ((ho.other 2 (by first | omega | (simp; done) | (simp; omega)) (by first | omega | (simp; done) | (simp; omega))).trans y7_11_2), (by have := ho.size; omega), (ho.at 0 rfl), (ho.at 1 rfl), (ho.at 2 rfl)⟩))
  case rest =>
  obtain ⟨W8, g2,  rfl, rfl, rfl, hg2a, hg2b, n8_13, D8, s8, y8_11_0, y8_11_1, y8_11_2, n8_11, y8_13_0, y8_13_1, y8_13_2⟩ := hcut
  skip
  try clear x1_0
  try clear x1_0'
  try clear x1_1
  try clear x1_1'
  try clear d1
  try clear D1
  try clear y1_5_0
  try clear y1_5_1
  try clear n1_5
  try clear y1_6_0
  try clear y1_6_1
  try clear y1_6_2
  try clear n1_6
  try clear v1_0
  try clear v1_0_1
  try clear v1_0_2
  try clear d2
  try clear D2
  try clear y2_5_0
  try clear y2_5_1
  try clear n2_5
  try clear y2_6_0
  try clear y2_6_1
  try clear y2_6_2
  try clear n2_6
  try clear v2_0
  try clear v2_1
  try clear v2_0_1
  try clear v2_0_2
  try clear x2_0
  try clear x2_0'
  try clear x2_1
  try clear x2_1'
  try clear d3
  try clear D3
  try clear y3_5_0
  try clear y3_5_1
  try clear n3_5
  try clear y3_6_0
  try clear y3_6_1
  try clear y3_6_2
  try clear n3_6
  try clear v3_0
  try clear v3_1
  try clear v3_2
  try clear v3_0_1
  try clear v3_0_2
  try clear x3_0
  try clear x3_0'
  try clear x3_1
  try clear x3_1'
  try clear b1
  try clear b2
  try clear b3
  try clear n4_11
  try clear D4
  try clear y4_5_0
  try clear y4_5_1
  try clear n4_5
  try clear y4_6_0
  try clear y4_6_1
  try clear y4_6_2
  try clear n4_6
  try clear y4_11_0
  try clear y4_11_1
  try clear y4_11_2
  try clear d5
  try clear D5
  try clear y5_5_0
  try clear y5_5_1
  try clear n5_5
  try clear y5_6_0
  try clear y5_6_1
  try clear y5_6_2
  try clear n5_6
  try clear y5_11_0
  try clear y5_11_1
  try clear y5_11_2
  try clear n5_11
  try clear v5_0
  try clear x5_0
  try clear x5_0'
  try clear x5_1
  try clear x5_1'
  try clear d6
  try clear D6
  try clear y6_5_0
  try clear y6_5_1
  try clear n6_5
  try clear y6_6_0
  try clear y6_6_1
  try clear y6_6_2
  try clear n6_6
  try clear y6_11_0
  try clear y6_11_1
  try clear y6_11_2
  try clear n6_11
  try clear v6_0
  try clear v6_1
  try clear x6_0
  try clear x6_0'
  try clear x6_1
  try clear x6_1'
  try clear d7
  try clear D7
  try clear y7_5_0
  try clear y7_5_1
  try clear n7_5
  try clear y7_6_0
  try clear y7_6_1
  try clear y7_6_2
  try clear n7_6
  try clear y7_11_0
  try clear y7_11_1
  try clear y7_11_2
  try clear n7_11
  try clear v7_0
  try clear v7_1
  try clear v7_2
  try clear x7_0
  try clear x7_0'
  try clear x7_1
  try clear x7_1'
  try clear b5
  try clear b6
  try clear b7
  go_wp2_with fail
  refine (eqGate_x _ _ _ _ ).mono ?_
  rintro e9 W9 ⟨rfl, b9⟩
  obtain ⟨k9, _⟩ := bcell b9
  have s9 : W8.heap.size + 0 ≤ W9.heap.size := by have := b9.size; (try simp at this); omega
  have d9 : Below W8.heap.size W8 W9 := (by repeat (first | assumption | exact Below.refl _ _ | (refine Below.trans ?_ (b9.mono (by first | omega | (simp; done) | (simp; omega)))) | (refine Below.setCell ?_ (by first | omega | (simp; done) | (simp; omega)) _) | apply below_drewN | apply Below.drew | (refine Below.alloc ?_ (by first | omega | (simp; done) | (simp; omega)) _)))
  have D9 : Below w.heap.size w W9 := Below.trans D8 (d9.mono (by omega))
  clear k9 y8_11_0 y8_11_1 y8_11_2 y8_13_0 y8_13_1 y8_13_2
  go_wp2
  go_ret
  exact ⟨rfl, (by repeat (first | assumption | exact Below.refl _ _ | (refine Below.trans ?_ (D9.mono (by first | omega | (simp; done) | (simp; omega)))) | (refine Below.setCell ?_ (by first | omega | (simp; done) | (simp; omega)) _) | apply below_drewN | apply Below.drew | (refine Below.alloc ?_ (by first | omega | (simp; done) | (simp; omega)) _)))⟩

set_option maxRecDepth 100000 in
set_option maxHeartbeats 1000000 in
theorem walk_FnExactStepSluice (a0_0 : Int) (a0_1 : Int) (a1_0 : Bool) (a1_1 : Int) (a1_2 : Int) (a2 : Int) (a3 : Int) (a4 : Int) (w : World) (wa0_0 : (Lit.int .i64 a0_0).wf = true) (wa0_1 : (Lit.int .i64 a0_1).wf = true) (wa1_1 : (Lit.int .i64 a1_1).wf = true) (wa1_2 : (Lit.int .i64 a1_2).wf = true) (wa2 : (Lit.int .i64 a2).wf = true) (wa3 : (Lit.int .i64 a3).wf = true) (wa4 : (Lit.int .i64 a4).wf = true) :
    Calls Try.prog 4 #[.agg #[.int .i64 a0_0, .int .i64 a0_1], .agg #[.bool a1_0, .int .i64 a1_1, .int .i64 a1_2], .int .i64 a2, .int .i64 a3, .int .i64 a4] w fun e w' => e = .returned (.bool true) ∧ Below w.heap.size w w' := by
  exact law_StepSluice a0_0 a0_1 a1_0 a1_1 a1_2 a2 a3 a4 w wa0_0 wa0_1 wa1_1 wa1_2 wa2 wa3 wa4

end Go.Proofs.Ytcimigaimlojlaa
