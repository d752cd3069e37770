/- The walk of the law on ReadTides: written by a program out of the law's operations. -/
import Derived.Shelf.Vars
import Derived.Test.YticbnahndidplaaDoorCReadTides
import Derived.Deep.DeepCutAuto


namespace Go.Proofs.YticbnahndidplaaDoor
open Go.RowKit

theorem ml_of {w : World} (hsh : w.ShapedOpen Tryd.prog) : ∃ m, w.cell? ⟨0, 0, none⟩ = some (.int .i64 m) :=
  Go.Proofs.cell_of_shapedOpen_int (P := Tryd.prog) (g := 0) (t := 3) (zero := #[.int .i64 0]) hsh (of_decide_eq_true (by kernel_rfl)) (by kernel_rfl) rfl (by kernel_rfl) (by kernel_rfl) Tryd.underlying3

set_option maxRecDepth 100000 in
set_option maxHeartbeats 4000000 in
theorem law_ReadTides (a0 : ByteArray) (w : World) (ha0 : a0.size ≤ 1048576)  (hpow : DkEnv w) :
    Calls Tryd.prog 5 #[.string a0] w fun e w' => e = .returned (.bool true) ∧ Below w.heap.size w w' := by
  have er1_ReadTides : ((r1_ReadTides a0) != (r1_ReadTides a0)) = false := by simp
  have hl_r0_ReadTides := len_r0_ReadTides a0
  go_enter Tryd.func5, Tryd.ntmps5
  go_wp2_with fail
  refine (specC_ReadTides _ _ ha0).mono ?_
  rintro e1 W1 ⟨A1_0, c1_0, rfl, b1, p1_0⟩
  obtain ⟨k1, _⟩ := bcell b1
  have s1 : w.heap.size + 0 ≤ W1.heap.size := by have := b1.size; (try simp at this); omega
  have d1 : Below w.heap.size w W1 := (by repeat (first | assumption | exact Below.refl _ _ | (refine Below.trans ?_ (b1.mono (by first | omega | (simp; done) | (simp; omega)))) | (refine Below.setCell ?_ (by first | omega | (simp; done) | (simp; omega)) _) | apply below_drewN | apply Below.drew | (refine Below.alloc ?_ (by first | omega | (simp; done) | (simp; omega)) _)))
  have D1 : Below w.heap.size w W1 := (d1.mono (by omega))
  clear k1
  have q1_A1_0 : Wr_Tide W1 (w.heap.size + 0) A1_0 (r0_ReadTides a0).length (r0_ReadTides a0) := p1_0.lower (by first | omega | (simp; done) | (simp; omega))
  have t1_0 := q1_A1_0.lt
  go_wp2_with fail
  refine (implC_ReadTides _ _ ha0 (dk_below hpow (by repeat (first | assumption | exact Below.refl _ _ | (refine Below.trans ?_ (D1.mono (by first | omega | (simp; done) | (simp; omega)))) | (refine Below.setCell ?_ (by first | omega | (simp; done) | (simp; omega)) _) | apply below_drewN | apply Below.drew | (refine Below.alloc ?_ (by first | omega | (simp; done) | (simp; omega)) _))))).mono ?_
  rintro e2 W2 ⟨A2_0, c2_0, rfl, b2, p2_0⟩
  obtain ⟨k2, _⟩ := bcell b2
  have s2 : W1.heap.size + 0 ≤ W2.heap.size := by have := b2.size; (try simp at this); omega
  have d2 : Below W1.heap.size W1 W2 := (by repeat (first | assumption | exact Below.refl _ _ | (refine Below.trans ?_ (b2.mono (by first | omega | (simp; done) | (simp; omega)))) | (refine Below.setCell ?_ (by first | omega | (simp; done) | (simp; omega)) _) | apply below_drewN | apply Below.drew | (refine Below.alloc ?_ (by first | omega | (simp; done) | (simp; omega)) _)))
  have D2 : Below w.heap.size w W2 := Below.trans D1 (d2.mono (by omega))
  have q2_A1_0 : Wr_Tide W2 (w.heap.size + 0) A1_0 (r0_ReadTides a0).length (r0_ReadTides a0) := q1_A1_0.below d2
  clear k2
  have q2_A2_0 : Wr_Tide W2 (W1.heap.size + 0) A2_0 (r0_ReadTides a0).length (r0_ReadTides a0) := p2_0.lower (by first | omega | (simp; done) | (simp; omega))
  have t2_0 := q2_A2_0.lt
  go_wp2_with fail
  refine (eqTideS_x _ _ _ _ _ (r0_ReadTides a0) _ hl_r0_ReadTides (Rd_Tide.mono ((q2_A2_0.rd).below (by repeat (first | assumption | exact Below.refl _ _ | (refine Below.setCell ?_ (by first | omega | (simp; done) | (simp; omega)) _) | apply below_drewN | apply Below.drew | (refine Below.alloc ?_ (by first | omega | (simp; done) | (simp; omega)) _)))) (by first | omega | (simp; done) | (simp; omega))) (Rd_Tide.mono ((q2_A1_0.rd).below (by repeat (first | assumption | exact Below.refl _ _ | (refine Below.setCell ?_ (by first | omega | (simp; done) | (simp; omega)) _) | apply below_drewN | apply Below.drew | (refine Below.alloc ?_ (by first | omega | (simp; done) | (simp; omega)) _)))) (by first | omega | (simp; done) | (simp; omega)))).mono ?_
  rintro e3 W3 ⟨rfl, b3⟩
  obtain ⟨k3, _⟩ := bcell b3
  have s3 : W2.heap.size + 0 ≤ W3.heap.size := by have := b3.size; (try simp at this); omega
  have d3 : Below W2.heap.size W2 W3 := (by repeat (first | assumption | exact Below.refl _ _ | (refine Below.trans ?_ (b3.mono (by first | omega | (simp; done) | (simp; omega)))) | (refine Below.setCell ?_ (by first | omega | (simp; done) | (simp; omega)) _) | apply below_drewN | apply Below.drew | (refine Below.alloc ?_ (by first | omega | (simp; done) | (simp; omega)) _)))
  have D3 : Below w.heap.size w W3 := Below.trans D2 (d3.mono (by omega))
  have q3_A1_0 : Wr_Tide W3 (w.heap.size + 0) A1_0 (r0_ReadTides a0).length (r0_ReadTides a0) := q2_A1_0.below d3
  have q3_A2_0 : Wr_Tide W3 (W1.heap.size + 0) A2_0 (r0_ReadTides a0).length (r0_ReadTides a0) := q2_A2_0.below d3
  clear k3
  go_wp2_with fail
  refine (markTideS_x (W1.heap.size + 0) W2.heap.size _ _ _ (r0_ReadTides a0) _ _  (by omega) (by omega) (by first | omega | (simp; done) | (simp; omega)) hl_r0_ReadTides (q3_A2_0.below (by repeat (first | assumption | exact Below.refl _ _ | (refine Below.setCell ?_ (by first | omega | (simp; done) | (simp; omega)) _) | apply below_drewN | apply Below.drew | (refine Below.alloc ?_ (by first | omega | (simp; done) | (simp; omega)) _)))) t2_0).mono ?_
  rintro e4 W4 ⟨rfl, b4, z4_0⟩
  have s4 : W3.heap.size + 0 ≤ W4.heap.size := by have := b4.size; (try simp at this); omega
  have d4 : Chg (W1.heap.size + 0) W2.heap.size W3 W4 := Chg.trans' (by repeat (first | assumption | exact Below.refl _ _ | (refine Below.setCell ?_ (by first | omega | (simp; done) | (simp; omega)) _) | apply below_drewN | apply Below.drew | (refine Below.alloc ?_ (by first | omega | (simp; done) | (simp; omega)) _))) b4
  have D4 : Below w.heap.size w W4 := Below.trans D3 (d4.below (by omega) (by omega))
  have q4_A1_0 : Wr_Tide W4 (w.heap.size + 0) A1_0 (r0_ReadTides a0).length (r0_ReadTides a0) := q3_A1_0.chg t1_0 d4 (by omega)
  go_wp2_with fail
  refine (heldTideS_x _ _ _ _ _ (by omega) (by omega) hl_r0_ReadTides (Rd_Tide.mono ((z4_0.rd).below (by repeat (first | assumption | exact Below.refl _ _ | (refine Below.setCell ?_ (by first | omega | (simp; done) | (simp; omega)) _) | apply below_drewN | apply Below.drew | (refine Below.alloc ?_ (by first | omega | (simp; done) | (simp; omega)) _)))) (by first | omega | (simp; done) | (simp; omega)))).mono ?_
  rintro e5 W5 ⟨rfl, b5⟩
  obtain ⟨k5, _⟩ := bcell b5
  have s5 : W4.heap.size + 0 ≤ W5.heap.size := by have := b5.size; (try simp at this); omega
  have d5 : Below W4.heap.size W4 W5 := (by repeat (first | assumption | exact Below.refl _ _ | (refine Below.trans ?_ (b5.mono (by first | omega | (simp; done) | (simp; omega)))) | (refine Below.setCell ?_ (by first | omega | (simp; done) | (simp; omega)) _) | apply below_drewN | apply Below.drew | (refine Below.alloc ?_ (by first | omega | (simp; done) | (simp; omega)) _)))
  have D5 : Below w.heap.size w W5 := Below.trans D4 (d5.mono (by omega))
  have q5_A1_0 : Wr_Tide W5 (w.heap.size + 0) A1_0 (r0_ReadTides a0).length (r0_ReadTides a0) := q4_A1_0.below d5
  have q5_A2_0 : Wr_Tide W5 (W1.heap.size + 0) A2_0 (r0_ReadTides a0).length (marks_Tide (1) (r0_ReadTides a0).length) := z4_0.below d5
  clear k5
  go_wp2_with fail
  refine (implC_ReadTides _ _ ha0 (dk_below hpow (by repeat (first | assumption | exact Below.refl _ _ | (refine Below.trans ?_ (D5.mono (by first | omega | (simp; done) | (simp; omega)))) | (refine Below.setCell ?_ (by first | omega | (simp; done) | (simp; omega)) _) | apply below_drewN | apply Below.drew | (refine Below.alloc ?_ (by first | omega | (simp; done) | (simp; omega)) _))))).mono ?_
  rintro e6 W6 ⟨A6_0, c6_0, rfl, b6, p6_0⟩
  obtain ⟨k6, _⟩ := bcell b6
  have s6 : W5.heap.size + 0 ≤ W6.heap.size := by have := b6.size; (try simp at this); omega
  have d6 : Below W5.heap.size W5 W6 := (by repeat (first | assumption | exact Below.refl _ _ | (refine Below.trans ?_ (b6.mono (by first | omega | (simp; done) | (simp; omega)))) | (refine Below.setCell ?_ (by first | omega | (simp; done) | (simp; omega)) _) | apply below_drewN | apply Below.drew | (refine Below.alloc ?_ (by first | omega | (simp; done) | (simp; omega)) _)))
  have D6 : Below w.heap.size w W6 := Below.trans D5 (d6.mono (by omega))
  have q6_A1_0 : Wr_Tide W6 (w.heap.size + 0) A1_0 (r0_ReadTides a0).length (r0_ReadTides a0) := q5_A1_0.below d6
  have q6_A2_0 : Wr_Tide W6 (W1.heap.size + 0) A2_0 (r0_ReadTides a0).length (marks_Tide (1) (r0_ReadTides a0).length) := q5_A2_0.below d6
  clear k6
  have q6_A6_0 : Wr_Tide W6 (W5.heap.size + 0) A6_0 (r0_ReadTides a0).length (r0_ReadTides a0) := p6_0.lower (by first | omega | (simp; done) | (simp; omega))
  have t6_0 := q6_A6_0.lt
  go_wp2_with fail
  refine (eqTideS_x _ _ _ _ _ (r0_ReadTides a0) _ hl_r0_ReadTides (Rd_Tide.mono ((q6_A6_0.rd).below (by repeat (first | assumption | exact Below.refl _ _ | (refine Below.setCell ?_ (by first | omega | (simp; done) | (simp; omega)) _) | apply below_drewN | apply Below.drew | (refine Below.alloc ?_ (by first | omega | (simp; done) | (simp; omega)) _)))) (by first | omega | (simp; done) | (simp; omega))) (Rd_Tide.mono ((q6_A1_0.rd).below (by repeat (first | assumption | exact Below.refl _ _ | (refine Below.setCell ?_ (by first | omega | (simp; done) | (simp; omega)) _) | apply below_drewN | apply Below.drew | (refine Below.alloc ?_ (by first | omega | (simp; done) | (simp; omega)) _)))) (by first | omega | (simp; done) | (simp; omega)))).mono ?_
  rintro e7 W7 ⟨rfl, b7⟩
  obtain ⟨k7, _⟩ := bcell b7
  have s7 : W6.heap.size + 0 ≤ W7.heap.size := by have := b7.size; (try simp at this); omega
  have d7 : Below W6.heap.size W6 W7 := (by repeat (first | assumption | exact Below.refl _ _ | (refine Below.trans ?_ (b7.mono (by first | omega | (simp; done) | (simp; omega)))) | (refine Below.setCell ?_ (by first | omega | (simp; done) | (simp; omega)) _) | apply below_drewN | apply Below.drew | (refine Below.alloc ?_ (by first | omega | (simp; done) | (simp; omega)) _)))
  have D7 : Below w.heap.size w W7 := Below.trans D6 (d7.mono (by omega))
  have q7_A2_0 : Wr_Tide W7 (W1.heap.size + 0) A2_0 (r0_ReadTides a0).length (marks_Tide (1) (r0_ReadTides a0).length) := q6_A2_0.below d7
  clear k7
  go_wp2_with fail
  refine (heldTideS_x _ _ _ _ _ (by omega) (by omega) hl_r0_ReadTides (Rd_Tide.mono ((q7_A2_0.rd).below (by repeat (first | assumption | exact Below.refl _ _ | (refine Below.setCell ?_ (by first | omega | (simp; done) | (simp; omega)) _) | apply below_drewN | apply Below.drew | (refine Below.alloc ?_ (by first | omega | (simp; done) | (simp; omega)) _)))) (by first | omega | (simp; done) | (simp; omega)))).mono ?_
  rintro e8 W8 ⟨rfl, b8⟩
  obtain ⟨k8, _⟩ := bcell b8
  have s8 : W7.heap.size + 0 ≤ W8.heap.size := by have := b8.size; (try simp at this); omega
  have d8 : Below W7.heap.size W7 W8 := (by repeat (first | assumption | exact Below.refl _ _ | (refine Below.trans ?_ (b8.mono (by first | omega | (simp; done) | (simp; omega)))) | (refine Below.setCell ?_ (by first | omega | (simp; done) | (simp; omega)) _) | apply below_drewN | apply Below.drew | (refine Below.alloc ?_ (by first | omega | (simp; done) | (simp; omega)) _)))
  have D8 : Below w.heap.size w W8 := Below.trans D7 (d8.mono (by omega))
  clear k8
  go_wp2
  go_ret
  exact ⟨rfl, (by repeat (first | assumption | exact Below.refl _ _ | (refine Below.trans ?_ (D8.mono (by first | omega | (simp; done) | (simp; omega)))) | (refine Below.setCell ?_ (by first | omega | (simp; done) | (simp; omega)) _) | apply below_drewN | apply Below.drew | (refine Below.alloc ?_ (by first | omega | (simp; done) | (simp; omega)) _)))⟩

set_option maxRecDepth 100000 in
set_option maxHeartbeats 1000000 in
theorem walk_FnExactReadTides (a0 : ByteArray) (w : World) (wa0 : a0.size ≤ maxLen) (hL : laidMetH Tryd.prog Rows.fnExactReadTidesRow.laid w) (hml : ∃ m, w.cell? ⟨0, 0, none⟩ = some (.int .i64 m)) :
    Calls Tryd.prog 5 #[.string a0] w fun e w' => e = .returned (.bool true) ∧ Below w.heap.size w w' := by
  rw [MakeChecks.laidMetH_plain _ _ _ (by kernel_rfl)] at hL
  have env : NumEnv w := ⟨pow_of_laid hL (.tail _ (.tail _ (.head _))),
    err_of_laid hL (.tail _ (.tail _ (.tail _ (.tail _ (.head _))))) (by kernel_rfl) (t := 113) (by kernel_rfl) Tryd.underlying113 ⟨_, _, rfl⟩,
    err_of_laid hL (.tail _ (.tail _ (.tail _ (.head _)))) (by kernel_rfl) (t := 113) (by kernel_rfl) Tryd.underlying113 ⟨_, _, rfl⟩⟩
  have hpow : DkEnv w := by
    obtain ⟨ml, hm⟩ := hml
    exact ⟨env, ⟨ml, hm⟩, World.block_lt_of_cell? _ _ hm⟩
  clear env hml
  clear hL
  unfold maxLen at  wa0
  by_cases ga0 : a0.size ≤ 1048576
  case neg =>
    go_enter Tryd.func5, Tryd.ntmps5
    go_wp2
    go_ret
    exact ⟨rfl, (by repeat (first | assumption | exact Below.refl _ _ | (refine Below.setCell ?_ (by first | omega | (simp; done) | (simp; omega)) _) | apply below_drewN | apply Below.drew | (refine Below.alloc ?_ (by first | omega | (simp; done) | (simp; omega)) _)))⟩
  exact law_ReadTides a0 w (by omega)  hpow

end Go.Proofs.YticbnahndidplaaDoor
