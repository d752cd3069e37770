/- The walk of the law on BreachText: written by a program out of the law's operations. -/
import Derived.Test.YtckhfkgldemcnaaDoorCBreachText
import Derived.Deep.DeepCutAuto


namespace Go.Proofs.YtckhfkgldemcnaaDoor
open Go.RowKit

set_option maxRecDepth 100000 in
set_option maxHeartbeats 4000000 in
theorem law_BreachText (a0_0 : Int) (a0_1 : Int) (a0_2 : Int) (w : World) (ha0_0 : (Lit.int .i64 a0_0).wf = true) (ha0_1 : (Lit.int .i64 a0_1).wf = true) (ha0_2 : (Lit.int .i64 a0_2).wf = true)  (hpow : PowTab w) :
    Calls Tryd.prog 11 #[.agg #[.int .i64 a0_0, .int .i64 a0_1, .int .i64 a0_2]] w fun e w' => e = .returned (.bool true) ∧ Below w.heap.size w w' := by
  go_enter Tryd.func11, Tryd.ntmps11
  go_wp2_with fail
  refine (toBreach_x _ _ _ _ ).mono ?_
  rintro e1 W1 ⟨rfl, b1⟩
  obtain ⟨k1, _⟩ := bcell b1
  have s1 : w.heap.size + 1 ≤ W1.heap.size := by have := b1.size; (try simp at this); omega
  have d1 : Below w.heap.size w W1 := (by repeat (first | assumption | exact Below.refl _ _ | (refine Below.trans ?_ (b1.mono (by first | omega | (simp; done) | (simp; omega)))) | (refine Below.setCell ?_ (by first | omega | (simp; done) | (simp; omega)) _) | apply below_drewN | apply Below.drew | (refine Below.alloc ?_ (by first | omega | (simp; done) | (simp; omega)) _)))
  have D1 : Below w.heap.size w W1 := (d1.mono (by omega))
  have y1_1_0 : W1.cell? ⟨w.heap.size, 0, none⟩ = some (.int .i64 a0_0) := by rw [k1 _ _ (by first | omega | (simp; done) | (simp; omega))]; first | (simp; done) | go_simp
  have y1_1_1 : W1.cell? ⟨w.heap.size, 1, none⟩ = some (.int .i64 a0_1) := by rw [k1 _ _ (by first | omega | (simp; done) | (simp; omega))]; first | (simp; done) | go_simp
  have y1_1_2 : W1.cell? ⟨w.heap.size, 2, none⟩ = some (.int .i64 a0_2) := by rw [k1 _ _ (by first | omega | (simp; done) | (simp; omega))]; first | (simp; done) | go_simp
  have n1_1 : w.heap.size < W1.heap.size := by omega
  clear k1
  go_wp2_with fail
  refine (specC_BreachText _ _ _ _ ha0_0 ha0_1 ha0_2).mono ?_
  rintro e2 W2 ⟨rfl, b2⟩
  obtain ⟨k2, _⟩ := bcell b2
  have s2 : W1.heap.size + 0 ≤ W2.heap.size := by have := b2.size; (try simp at this); omega
  have d2 : Below W1.heap.size W1 W2 := (by repeat (first | assumption | exact Below.refl _ _ | (refine Below.trans ?_ (b2.mono (by first | omega | (simp; done) | (simp; omega)))) | (refine Below.setCell ?_ (by first | omega | (simp; done) | (simp; omega)) _) | apply below_drewN | apply Below.drew | (refine Below.alloc ?_ (by first | omega | (simp; done) | (simp; omega)) _)))
  have D2 : Below w.heap.size w W2 := Below.trans D1 (d2.mono (by omega))
  have y2_1_0 : W2.cell? ⟨w.heap.size, 0, none⟩ = some (.int .i64 a0_0) := (d2.cell (p := ⟨w.heap.size, 0, none⟩) (show w.heap.size < W1.heap.size by omega)).trans y1_1_0
  have y2_1_1 : W2.cell? ⟨w.heap.size, 1, none⟩ = some (.int .i64 a0_1) := (d2.cell (p := ⟨w.heap.size, 1, none⟩) (show w.heap.size < W1.heap.size by omega)).trans y1_1_1
  have y2_1_2 : W2.cell? ⟨w.heap.size, 2, none⟩ = some (.int .i64 a0_2) := (d2.cell (p := ⟨w.heap.size, 2, none⟩) (show w.heap.size < W1.heap.size by omega)).trans y1_1_2
  have n2_1 : w.heap.size < W2.heap.size := by omega
  clear k2 y1_1_0 y1_1_1 y1_1_2 n1_1
  go_wp2_with fail
  refine (toBreach_x _ _ _ _ ).mono ?_
  rintro e3 W3 ⟨rfl, b3⟩
  obtain ⟨k3, _⟩ := bcell b3
  have s3 : W2.heap.size + 0 ≤ W3.heap.size := by have := b3.size; (try simp at this); omega
  have d3 : Below W2.heap.size W2 W3 := (by repeat (first | assumption | exact Below.refl _ _ | (refine Below.trans ?_ (b3.mono (by first | omega | (simp; done) | (simp; omega)))) | (refine Below.setCell ?_ (by first | omega | (simp; done) | (simp; omega)) _) | apply below_drewN | apply Below.drew | (refine Below.alloc ?_ (by first | omega | (simp; done) | (simp; omega)) _)))
  have D3 : Below w.heap.size w W3 := Below.trans D2 (d3.mono (by omega))
  clear k3 y2_1_0 y2_1_1 y2_1_2
  go_wp2_with fail
  refine (implC_BreachText _ _ _ _ ha0_0 ha0_1 ha0_2 (pow_below hpow (by repeat (first | assumption | exact Below.refl _ _ | (refine Below.trans ?_ (D3.mono (by first | omega | (simp; done) | (simp; omega)))) | (refine Below.setCell ?_ (by first | omega | (simp; done) | (simp; omega)) _) | apply below_drewN | apply Below.drew | (refine Below.alloc ?_ (by first | omega | (simp; done) | (simp; omega)) _))))).mono ?_
  rintro e4 W4 ⟨rfl, b4⟩
  obtain ⟨k4, _⟩ := bcell b4
  have s4 : W3.heap.size + 0 ≤ W4.heap.size := by have := b4.size; (try simp at this); omega
  have d4 : Below W3.heap.size W3 W4 := (by repeat (first | assumption | exact Below.refl _ _ | (refine Below.trans ?_ (b4.mono (by first | omega | (simp; done) | (simp; omega)))) | (refine Below.setCell ?_ (by first | omega | (simp; done) | (simp; omega)) _) | apply below_drewN | apply Below.drew | (refine Below.alloc ?_ (by first | omega | (simp; done) | (simp; omega)) _)))
  have D4 : Below w.heap.size w W4 := Below.trans D3 (d4.mono (by omega))
  clear k4
  go_wp2
  go_ret
  exact ⟨rfl, (by repeat (first | assumption | exact Below.refl _ _ | (refine Below.trans ?_ (D4.mono (by first | omega | (simp; done) | (simp; omega)))) | (refine Below.setCell ?_ (by first | omega | (simp; done) | (simp; omega)) _) | apply below_drewN | apply Below.drew | (refine Below.alloc ?_ (by first | omega | (simp; done) | (simp; omega)) _)))⟩

set_option maxRecDepth 100000 in
set_option maxHeartbeats 1000000 in
theorem walk_FnExactBreachText (a0_0 : Int) (a0_1 : Int) (a0_2 : Int) (w : World) (wa0_0 : (Lit.int .i64 a0_0).wf = true) (wa0_1 : (Lit.int .i64 a0_1).wf = true) (wa0_2 : (Lit.int .i64 a0_2).wf = true) (hL : laidMetH Tryd.prog Rows.fnExactBreachTextRow.laid w) :
    Calls Tryd.prog 11 #[.agg #[.int .i64 a0_0, .int .i64 a0_1, .int .i64 a0_2]] w fun e w' => e = .returned (.bool true) ∧ Below w.heap.size w w' := by
  rw [MakeChecks.laidMetH_plain _ _ _ (by kernel_rfl)] at hL
  have hpow := pow_of_laid hL (by first | exact .head _ | exact .tail _ (.head _) | exact .tail _ (.tail _ (.head _)) | exact .tail _ (.tail _ (.tail _ (.head _))) | exact .tail _ (.tail _ (.tail _ (.tail _ (.head _)))))
  exact law_BreachText a0_0 a0_1 a0_2 w wa0_0 wa0_1 wa0_2 hpow

end Go.Proofs.YtckhfkgldemcnaaDoor
