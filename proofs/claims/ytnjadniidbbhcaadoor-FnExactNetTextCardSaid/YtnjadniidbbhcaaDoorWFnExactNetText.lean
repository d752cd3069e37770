/- The walk of the law on NetText: written by a program out of the law's operations. -/
import Derived.Test.YtnjadniidbbhcaaDoorCNetText
import Derived.Deep.DeepCutAuto


namespace Go.Proofs.YtnjadniidbbhcaaDoor
open Go.RowKit

set_option maxRecDepth 100000 in
set_option maxHeartbeats 4000000 in
theorem law_NetText (a0_0 : Int) (a0_1 : Option Addr) (la0_1 ca0_1 : Nat) (xa0_1 : List RDitch) (w : World) (ha0_0 : (Lit.int .i64 a0_0).wf = true) (ha0_1 : la0_1 ≤ 1048576) (ra0_1 : Rd_Ditch w w.heap.size a0_1 la0_1 xa0_1) (fa0_1 : Wf_Ditch xa0_1) (htot : la0_1 ≤ 1048576) (hpow : PowTab w) :
    Calls Tryd.prog 4 #[.agg #[.int .i64 a0_0, .slice a0_1 la0_1 ca0_1]] w fun e w' => e = .returned (.bool true) ∧ Below w.heap.size w w' := by
  go_enter Tryd.func4, Tryd.ntmps4
  go_wp2_with fail
  refine (szNet_ok _ _ _ _ _ _ (by omega) (by omega)).mono ?_
  rintro e1 W1 ⟨rfl, b1⟩
  obtain ⟨k1, _⟩ := bcell b1
  have s1 : w.heap.size + 1 ≤ W1.heap.size := by have := b1.size; (try simp at this); omega
  have d1 : Below w.heap.size w W1 := (by repeat (first | assumption | exact Below.refl _ _ | (refine Below.trans ?_ (b1.mono (by first | omega | (simp; done) | (simp; omega)))) | (refine Below.setCell ?_ (by first | omega | (simp; done) | (simp; omega)) _) | apply below_drewN | apply Below.drew | (refine Below.alloc ?_ (by first | omega | (simp; done) | (simp; omega)) _)))
  have D1 : Below w.heap.size w W1 := (d1.mono (by omega))
  have y1_1_0 : W1.cell? ⟨w.heap.size, 0, none⟩ = some (.int .i64 a0_0) := by rw [k1 _ _ (by first | omega | (simp; done) | (simp; omega))]; first | (simp; done) | go_simp
  have y1_1_1 : W1.cell? ⟨w.heap.size, 1, none⟩ = some (.slice a0_1 la0_1 ca0_1) := by rw [k1 _ _ (by first | omega | (simp; done) | (simp; omega))]; first | (simp; done) | go_simp
  have n1_1 : w.heap.size < W1.heap.size := by omega
  have q1_a0_1 : Rd_Ditch W1 w.heap.size a0_1 la0_1 xa0_1 := ra0_1.below (d1.mono (by omega))
  clear k1
  go_wp2_with fail
  refine (toNet_x _ _ _ _ xa0_1 _ ha0_1 (Rd_Ditch.mono (q1_a0_1.below (by repeat (first | assumption | exact Below.refl _ _ | (refine Below.setCell ?_ (by first | omega | (simp; done) | (simp; omega)) _) | apply below_drewN | apply Below.drew | (refine Below.alloc ?_ (by first | omega | (simp; done) | (simp; omega)) _)))) (by first | omega | (simp; done) | (simp; omega)))).mono ?_
  rintro e2 W2 ⟨A2_0, c2_0, rfl, b2, p2_0⟩
  obtain ⟨k2, _⟩ := bcell b2
  have s2 : W1.heap.size + 0 ≤ W2.heap.size := by have := b2.size; (try simp at this); omega
  have d2 : Below W1.heap.size W1 W2 := (by repeat (first | assumption | exact Below.refl _ _ | (refine Below.trans ?_ (b2.mono (by first | omega | (simp; done) | (simp; omega)))) | (refine Below.setCell ?_ (by first | omega | (simp; done) | (simp; omega)) _) | apply below_drewN | apply Below.drew | (refine Below.alloc ?_ (by first | omega | (simp; done) | (simp; omega)) _)))
  have D2 : Below w.heap.size w W2 := Below.trans D1 (d2.mono (by omega))
  have y2_1_0 : W2.cell? ⟨w.heap.size, 0, none⟩ = some (.int .i64 a0_0) := (d2.cell (p := ⟨w.heap.size, 0, none⟩) (show w.heap.size < W1.heap.size by omega)).trans y1_1_0
  have y2_1_1 : W2.cell? ⟨w.heap.size, 1, none⟩ = some (.slice a0_1 la0_1 ca0_1) := (d2.cell (p := ⟨w.heap.size, 1, none⟩) (show w.heap.size < W1.heap.size by omega)).trans y1_1_1
  have n2_1 : w.heap.size < W2.heap.size := by omega
  have q2_a0_1 : Rd_Ditch W2 w.heap.size a0_1 la0_1 xa0_1 := q1_a0_1.below (d2.mono (by omega))
  clear k2 y1_1_0 y1_1_1 n1_1
  have q2_A2_0 : Wr_Ditch W2 (W1.heap.size + 0) A2_0 la0_1 xa0_1 := p2_0.lower (by first | omega | (simp; done) | (simp; omega))
  have t2_0 := q2_A2_0.lt
  go_wp2_with fail
  refine (specC_NetText _ _ _ _ xa0_1 _ ha0_0 ha0_1 (Rd_Ditch.mono ((q2_A2_0.rd).below (by repeat (first | assumption | exact Below.refl _ _ | (refine Below.setCell ?_ (by first | omega | (simp; done) | (simp; omega)) _) | apply below_drewN | apply Below.drew | (refine Below.alloc ?_ (by first | omega | (simp; done) | (simp; omega)) _)))) (by first | omega | (simp; done) | (simp; omega))) fa0_1).mono ?_
  rintro e3 W3 ⟨rfl, b3⟩
  obtain ⟨k3, _⟩ := bcell b3
  have s3 : W2.heap.size + 0 ≤ W3.heap.size := by have := b3.size; (try simp at this); omega
  have d3 : Below W2.heap.size W2 W3 := (by repeat (first | assumption | exact Below.refl _ _ | (refine Below.trans ?_ (b3.mono (by first | omega | (simp; done) | (simp; omega)))) | (refine Below.setCell ?_ (by first | omega | (simp; done) | (simp; omega)) _) | apply below_drewN | apply Below.drew | (refine Below.alloc ?_ (by first | omega | (simp; done) | (simp; omega)) _)))
  have D3 : Below w.heap.size w W3 := Below.trans D2 (d3.mono (by omega))
  have y3_1_0 : W3.cell? ⟨w.heap.size, 0, none⟩ = some (.int .i64 a0_0) := (d3.cell (p := ⟨w.heap.size, 0, none⟩) (show w.heap.size < W2.heap.size by omega)).trans y2_1_0
  have y3_1_1 : W3.cell? ⟨w.heap.size, 1, none⟩ = some (.slice a0_1 la0_1 ca0_1) := (d3.cell (p := ⟨w.heap.size, 1, none⟩) (show w.heap.size < W2.heap.size by omega)).trans y2_1_1
  have n3_1 : w.heap.size < W3.heap.size := by omega
  have q3_a0_1 : Rd_Ditch W3 w.heap.size a0_1 la0_1 xa0_1 := q2_a0_1.below (d3.mono (by omega))
  clear k3 y2_1_0 y2_1_1 n2_1
  go_wp2_with fail
  refine (toNet_x _ _ _ _ xa0_1 _ ha0_1 (Rd_Ditch.mono (q3_a0_1.below (by repeat (first | assumption | exact Below.refl _ _ | (refine Below.setCell ?_ (by first | omega | (simp; done) | (simp; omega)) _) | apply below_drewN | apply Below.drew | (refine Below.alloc ?_ (by first | omega | (simp; done) | (simp; omega)) _)))) (by first | omega | (simp; done) | (simp; omega)))).mono ?_
  rintro e4 W4 ⟨A4_0, c4_0, rfl, b4, p4_0⟩
  obtain ⟨k4, _⟩ := bcell b4
  have s4 : W3.heap.size + 0 ≤ W4.heap.size := by have := b4.size; (try simp at this); omega
  have d4 : Below W3.heap.size W3 W4 := (by repeat (first | assumption | exact Below.refl _ _ | (refine Below.trans ?_ (b4.mono (by first | omega | (simp; done) | (simp; omega)))) | (refine Below.setCell ?_ (by first | omega | (simp; done) | (simp; omega)) _) | apply below_drewN | apply Below.drew | (refine Below.alloc ?_ (by first | omega | (simp; done) | (simp; omega)) _)))
  have D4 : Below w.heap.size w W4 := Below.trans D3 (d4.mono (by omega))
  have y4_1_0 : W4.cell? ⟨w.heap.size, 0, none⟩ = some (.int .i64 a0_0) := (d4.cell (p := ⟨w.heap.size, 0, none⟩) (show w.heap.size < W3.heap.size by omega)).trans y3_1_0
  have y4_1_1 : W4.cell? ⟨w.heap.size, 1, none⟩ = some (.slice a0_1 la0_1 ca0_1) := (d4.cell (p := ⟨w.heap.size, 1, none⟩) (show w.heap.size < W3.heap.size by omega)).trans y3_1_1
  have n4_1 : w.heap.size < W4.heap.size := by omega
  have q4_a0_1 : Rd_Ditch W4 w.heap.size a0_1 la0_1 xa0_1 := q3_a0_1.below (d4.mono (by omega))
  clear k4 y3_1_0 y3_1_1 n3_1
  have q4_A4_0 : Wr_Ditch W4 (W3.heap.size + 0) A4_0 la0_1 xa0_1 := p4_0.lower (by first | omega | (simp; done) | (simp; omega))
  have t4_0 := q4_A4_0.lt
  go_wp2_with fail
  refine (implC_NetText _ _ _ _ xa0_1 _ ha0_0 ha0_1 (Rd_Ditch.mono ((q4_A4_0.rd).below (by repeat (first | assumption | exact Below.refl _ _ | (refine Below.setCell ?_ (by first | omega | (simp; done) | (simp; omega)) _) | apply below_drewN | apply Below.drew | (refine Below.alloc ?_ (by first | omega | (simp; done) | (simp; omega)) _)))) (by first | omega | (simp; done) | (simp; omega))) fa0_1 (pow_below hpow (by repeat (first | assumption | exact Below.refl _ _ | (refine Below.trans ?_ (D4.mono (by first | omega | (simp; done) | (simp; omega)))) | (refine Below.setCell ?_ (by first | omega | (simp; done) | (simp; omega)) _) | apply below_drewN | apply Below.drew | (refine Below.alloc ?_ (by first | omega | (simp; done) | (simp; omega)) _))))).mono ?_
  rintro e5 W5 ⟨rfl, b5⟩
  obtain ⟨k5, _⟩ := bcell b5
  have s5 : W4.heap.size + 1 ≤ W5.heap.size := by have := b5.size; (try simp at this); omega
  have d5 : Below W4.heap.size W4 W5 := (by repeat (first | assumption | exact Below.refl _ _ | (refine Below.trans ?_ (b5.mono (by first | omega | (simp; done) | (simp; omega)))) | (refine Below.setCell ?_ (by first | omega | (simp; done) | (simp; omega)) _) | apply below_drewN | apply Below.drew | (refine Below.alloc ?_ (by first | omega | (simp; done) | (simp; omega)) _)))
  have D5 : Below w.heap.size w W5 := Below.trans D4 (d5.mono (by omega))
  have y5_1_0 : W5.cell? ⟨w.heap.size, 0, none⟩ = some (.int .i64 a0_0) := (d5.cell (p := ⟨w.heap.size, 0, none⟩) (show w.heap.size < W4.heap.size by omega)).trans y4_1_0
  have y5_1_1 : W5.cell? ⟨w.heap.size, 1, none⟩ = some (.slice a0_1 la0_1 ca0_1) := (d5.cell (p := ⟨w.heap.size, 1, none⟩) (show w.heap.size < W4.heap.size by omega)).trans y4_1_1
  have n5_1 : w.heap.size < W5.heap.size := by omega
  have y5_5_0 : W5.cell? ⟨W4.heap.size, 0, none⟩ = some (.int .i64 a0_0) := by rw [k5 _ _ (by first | omega | (simp; done) | (simp; omega))]; first | (simp; done) | go_simp
  have y5_5_1 : W5.cell? ⟨W4.heap.size, 1, none⟩ = some (.slice A4_0 la0_1 c4_0) := by rw [k5 _ _ (by first | omega | (simp; done) | (simp; omega))]; first | (simp; done) | go_simp
  have n5_5 : W4.heap.size < W5.heap.size := by omega
  have q5_a0_1 : Rd_Ditch W5 w.heap.size a0_1 la0_1 xa0_1 := q4_a0_1.below (d5.mono (by omega))
  have q5_A4_0 : Wr_Ditch W5 (W3.heap.size + 0) A4_0 la0_1 xa0_1 := q4_A4_0.below d5
  clear k5 y4_1_0 y4_1_1 n4_1
  go_wp2_with fail
  go_region_held3 (fun w' => w'.cell? ⟨W4.heap.size, 0, none⟩ = some (.int .i64 a0_0) ∧ w'.cell? ⟨W4.heap.size, 1, none⟩ = some (.slice A4_0 la0_1 c4_0) ∧ w'.cell? ⟨w.heap.size, 0, none⟩ = some (.int .i64 a0_0) ∧ w'.cell? ⟨w.heap.size, 1, none⟩ = some (.slice a0_1 la0_1 ca0_1)) (go_keep) (first | (go_at_call 11; refine (toNet_x _ _ _ _ xa0_1 _ ha0_1 (Rd_Ditch.mono (q5_a0_1.below (by repeat (first | assumption | exact Below.refl _ _ | (refine Below.setCell ?_ (by first | omega | (simp; done) | (simp; omega)) _) | apply below_drewN | apply Below.drew | (refine Below.alloc ?_ (by first | omega | (simp; done) | (simp; omega)) _)))) (by first | omega | (simp; done) | (simp; omega)))).mono ?_; rintro e6 W6 ⟨A6_0, c6_0, rfl, b6, p6_0⟩; obtain ⟨k6, _⟩ := bcell b6; (have s6 : W5.heap.size + 0 ≤ W6.heap.size := by have := b6.size; (try simp at this); omega); (have d6 : Below W5.heap.size W5 W6 := (by repeat (first | assumption | exact Below.refl _ _ | (refine Below.trans ?_ (b6.mono (by first | omega | (simp; done) | (simp; omega)))) | (refine Below.setCell ?_ (by first | omega | (simp; done) | (simp; omega)) _) | apply below_drewN | apply Below.drew | (refine Below.alloc ?_ (by first | omega | (simp; done) | (simp; omega)) _)))); (have D6 : Below w.heap.size w W6 := Below.trans D5 (d6.mono (by omega))); (have y6_1_0 : W6.cell? ⟨w.heap.size, 0, none⟩ = some (.int .i64 a0_0) := (d6.cell (p := ⟨w.heap.size, 0, none⟩) (show w.heap.size < W5.heap.size by omega)).trans y5_1_0); (have y6_1_1 : W6.cell? ⟨w.heap.size, 1, none⟩ = some (.slice a0_1 la0_1 ca0_1) := (d6.cell (p := ⟨w.heap.size, 1, none⟩) (show w.heap.size < W5.heap.size by omega)).trans y5_1_1); (have n6_1 : w.heap.size < W6.heap.size := by omega); (have y6_5_0 : W6.cell? ⟨W4.heap.size, 0, none⟩ = some (.int .i64 a0_0) := (d6.cell (p := ⟨W4.heap.size, 0, none⟩) (show W4.heap.size < W5.heap.size by omega)).trans y5_5_0); (have y6_5_1 : W6.cell? ⟨W4.heap.size, 1, none⟩ = some (.slice A4_0 la0_1 c4_0) := (d6.cell (p := ⟨W4.heap.size, 1, none⟩) (show W4.heap.size < W5.heap.size by omega)).trans y5_5_1); (have n6_5 : W4.heap.size < W6.heap.size := by omega); (have q6_A4_0 : Wr_Ditch W6 (W3.heap.size + 0) A4_0 la0_1 xa0_1 := q5_A4_0.below d6); clear k6 y5_1_0 y5_1_1 n5_1 y5_5_0 y5_5_1 n5_5; (have q6_A6_0 : Wr_Ditch W6 (W5.heap.size + 0) A6_0 la0_1 xa0_1 := p6_0.lower (by first | omega | (simp; done) | (simp; omega))); (have t6_0 := q6_A6_0.lt)) | (go_at_call 13; refine (eqNet_x _ _ _ _ _ _ xa0_1 _ ha0_1 (Rd_Ditch.mono ((q6_A4_0.rd).below (by repeat (first | assumption | exact Below.refl _ _ | (refine Below.setCell ?_ (by first | omega | (simp; done) | (simp; omega)) _) | apply below_drewN | apply Below.drew | (refine Below.alloc ?_ (by first | omega | (simp; done) | (simp; omega)) _)))) (by first | omega | (simp; done) | (simp; omega))) (Rd_Ditch.mono ((q6_A6_0.rd).below (by repeat (first | assumption | exact Below.refl _ _ | (refine Below.setCell ?_ (by first | omega | (simp; done) | (simp; omega)) _) | apply below_drewN | apply Below.drew | (refine Below.alloc ?_ (by first | omega | (simp; done) | (simp; omega)) _)))) (by first | omega | (simp; done) | (simp; omega)))).mono ?_; rintro e7 W7 ⟨rfl, b7⟩; obtain ⟨k7, _⟩ := bcell b7; (have s7 : W6.heap.size + 0 ≤ W7.heap.size := by have := b7.size; (try simp at this); omega); (have d7 : Below W6.heap.size W6 W7 := (by repeat (first | assumption | exact Below.refl _ _ | (refine Below.trans ?_ (b7.mono (by first | omega | (simp; done) | (simp; omega)))) | (refine Below.setCell ?_ (by first | omega | (simp; done) | (simp; omega)) _) | apply below_drewN | apply Below.drew | (refine Below.alloc ?_ (by first | omega | (simp; done) | (simp; omega)) _)))); (have D7 : Below w.heap.size w W7 := Below.trans D6 (d7.mono (by omega))); (have y7_1_0 : W7.cell? ⟨w.heap.size, 0, none⟩ = some (.int .i64 a0_0) := (d7.cell (p := ⟨w.heap.size, 0, none⟩) (show w.heap.size < W6.heap.size by omega)).trans y6_1_0); (have y7_1_1 : W7.cell? ⟨w.heap.size, 1, none⟩ = some (.slice a0_1 la0_1 ca0_1) := (d7.cell (p := ⟨w.heap.size, 1, none⟩) (show w.heap.size < W6.heap.size by omega)).trans y6_1_1); (have n7_1 : w.heap.size < W7.heap.size := by omega); (have y7_5_0 : W7.cell? ⟨W4.heap.size, 0, none⟩ = some (.int .i64 a0_0) := (d7.cell (p := ⟨W4.heap.size, 0, none⟩) (show W4.heap.size < W6.heap.size by omega)).trans y6_5_0); (have y7_5_1 : W7.cell? ⟨W4.heap.size, 1, none⟩ = some (.slice A4_0 la0_1 c4_0) := (d7.cell (p := ⟨W4.heap.size, 1, none⟩) (show W4.heap.size < W6.heap.size by omega)).trans y6_5_1); (have n7_5 : W4.heap.size < W7.heap.size := by omega); clear k7 y6_1_0 y6_1_1 n6_1 y6_5_0 y6_5_1 n6_5))
  go_wp2
  go_ret
  exact ⟨rfl, (by repeat (first | assumption | exact Below.refl _ _ | (refine Below.trans ?_ (D7.mono (by first | omega | (simp; done) | (simp; omega)))) | (refine Below.setCell ?_ (by first | omega | (simp; done) | (simp; omega)) _) | apply below_drewN | apply Below.drew | (refine Below.alloc ?_ (by first | omega | (simp; done) | (simp; omega)) _)))⟩

set_option maxRecDepth 100000 in
set_option maxHeartbeats 1000000 in
theorem walk_FnExactNetText (a0_0 : Int) (a0_1 : Option Addr) (la0_1 ca0_1 : Nat) (w : World) (wa0_0 : (Lit.int .i64 a0_0).wf = true) (wa0_1 : IsCells [gInt, gInt, gInt] w a0_1 la0_1 ca0_1) (hL : laidMetH Tryd.prog Rows.fnExactNetTextRow.laid w) :
    Calls Tryd.prog 4 #[.agg #[.int .i64 a0_0, .slice a0_1 la0_1 ca0_1]] w fun e w' => e = .returned (.bool true) ∧ Below w.heap.size w w' := by
  rw [MakeChecks.laidMetH_plain _ _ _ (by kernel_rfl)] at hL
  have hpow := pow_of_laid hL (by first | exact .head _ | exact .tail _ (.head _) | exact .tail _ (.tail _ (.head _)) | exact .tail _ (.tail _ (.tail _ (.head _))) | exact .tail _ (.tail _ (.tail _ (.tail _ (.head _)))))
  clear hL
  obtain ⟨xa0_1, ra0_1, fa0_1⟩ := IsCells.rd_Ditch wa0_1
  have ma0_1 := wa0_1.len
  unfold maxLen at ma0_1
  by_cases htot : la0_1 ≤ 1048576
  case neg =>
    go_enter Tryd.func4, Tryd.ntmps4
    go_wp2
    all_goals (first | (go_ret; exact ⟨rfl, (by repeat (first | assumption | exact Below.refl _ _ | (refine Below.setCell ?_ (by first | omega | (simp; done) | (simp; omega)) _) | apply below_drewN | apply Below.drew | (refine Below.alloc ?_ (by first | omega | (simp; done) | (simp; omega)) _)))⟩) | (exfalso; omega))
  exact law_NetText a0_0 a0_1 la0_1 ca0_1 xa0_1 w wa0_0 (by omega) ra0_1 fa0_1 htot hpow

end Go.Proofs.YtnjadniidbbhcaaDoor
