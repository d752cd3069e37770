/- Contracts of the laws' helpers over the struct Net: size, copy, equal, mark, held. -/
import Derived.Test.YtnjadniidbbhcaaDoorReg
import Derived.Test.YtnjadniidbbhcaaDoorRDitch
import Derived.Deep.RegionHeld3
namespace Go.Proofs.YtnjadniidbbhcaaDoor
open Go.RowKit

set_option maxHeartbeats 400000 in
theorem szNet_ok (x0 : Int) (A1 : Option Addr) (n1 k1 : Nat) (left : Int) (w : World) (h : (n1 : Int) ≤ left) (h2 : left ≤ 1048576) :
    Calls Tryd.prog 9 #[.agg #[.int .i64 x0, .slice A1 n1 k1], .int .i64 left] w fun e w' => e = .returned (.int .i64 (left - (n1 : Int))) ∧ Below w.heap.size w w' := by
  go_enter Tryd.func9, Tryd.ntmps9
  go_wp2_with fail
  refine (szDitchS_ok _ _ _ _ _ (by omega) (by omega)).mono ?_
  rintro e0 W0 ⟨rfl, b0⟩
  have s0 := b0.size
  (try simp at s0)
  obtain ⟨c0, f0⟩ := bcell b0
  go_wp2
  go_ret
  exact ⟨rfl, (by repeat (first | assumption | exact Below.refl _ _ | (refine Below.trans ?_ (b0.mono (by first | omega | (simp; done) | (simp; omega)))) | (refine Below.setCell ?_ (by first | omega | (simp; done) | (simp; omega)) _) | apply below_drewN | apply Below.drew | (refine Below.alloc ?_ (by first | omega | (simp; done) | (simp; omega)) _)))⟩

set_option maxHeartbeats 800000 in
theorem toNet_xc (x0 : Int) (A1 : Option Addr) (n1 k1 : Nat) (xs1 : List RDitch) (w : World) (hn1 : n1 ≤ 1048576) (ha1 : Rd_Ditch w w.heap.size A1 n1 xs1) :
    Calls Tryd.prog 11 #[.agg #[.int .i64 x0, .slice A1 n1 k1]] w fun e w' => ∃ B1 d1, e = .returned (.agg #[.int .i64 x0, .slice B1 n1 d1]) ∧ Below w.heap.size w w' ∧ Wr_Ditch w' w.heap.size B1 n1 xs1 ∧ n1 ≤ d1 := by
  go_enter Tryd.func11, Tryd.ntmps11
  go_wp2_with fail
  go_wp2_with (go_at_call 29; refine (toDitchS_xc _ _ _ xs1 _ hn1 ((ha1.below (by repeat (first | assumption | exact Below.refl _ _ | (refine Below.setCell ?_ (by first | omega | (simp; done) | (simp; omega)) _) | apply below_drewN | apply Below.drew | (refine Below.alloc ?_ (by first | omega | (simp; done) | (simp; omega)) _)))).mono (by first | omega | (simp; done) | (simp; omega)))).mono ?_; rintro e1 W1 ⟨B1, d1, rfl, b1, x1, l1⟩; have z1 : w.heap.size + 2 ≤ W1.heap.size := (by have := b1.size; simp at this; omega); obtain ⟨c1, f1⟩ := bcell b1)
  exact bodyPost_ret (v := .agg #[.int .i64 x0, .slice B1 n1 d1]) (by simp [results, Tryd.results11, go_sem, c1, z1]) rfl ⟨_, _, rfl, (by repeat (first | assumption | exact Below.refl _ _ | (refine Below.trans ?_ (b1.mono (by first | omega | (simp; done) | (simp; omega)))) | (refine Below.setCell ?_ (by first | omega | (simp; done) | (simp; omega)) _) | apply below_drewN | apply Below.drew | (refine Below.alloc ?_ (by first | omega | (simp; done) | (simp; omega)) _))), (x1.abv (by repeat (first | exact Abv.refl _ _ | (refine Abv.setCell ?_ (by first | omega | (simp; done) | (simp; omega)) _) | apply Abv.drewN | apply Abv.drew | (refine Abv.alloc ?_ _)))).lower (by first | omega | (simp; done) | (simp; omega)), l1⟩

theorem toNet_x (x0 : Int) (A1 : Option Addr) (n1 k1 : Nat) (xs1 : List RDitch) (w : World) (hn1 : n1 ≤ 1048576) (ha1 : Rd_Ditch w w.heap.size A1 n1 xs1) :
    Calls Tryd.prog 11 #[.agg #[.int .i64 x0, .slice A1 n1 k1]] w fun e w' => ∃ B1 d1, e = .returned (.agg #[.int .i64 x0, .slice B1 n1 d1]) ∧ Below w.heap.size w w' ∧ Wr_Ditch w' w.heap.size B1 n1 xs1 :=
  (toNet_xc x0 A1 n1 k1 xs1 w hn1 ha1).mono fun _ _ ⟨B1, d1, he, hb, h0, _⟩ => ⟨B1, d1, he, hb, h0⟩

set_option maxHeartbeats 800000 in
theorem eqNet_x (x0 : Int) (A1 B1 : Option Addr) (n1 k1 d1 : Nat) (xs1 : List RDitch) (w : World) (hn1 : n1 ≤ 1048576) (ha1 : Rd_Ditch w w.heap.size A1 n1 xs1) (hb1 : Rd_Ditch w w.heap.size B1 n1 xs1) :
    Calls Tryd.prog 13 #[.agg #[.int .i64 x0, .slice A1 n1 k1], .agg #[.int .i64 x0, .slice B1 n1 d1]] w fun e w' => e = .returned (.bool true) ∧ Below w.heap.size w w' := by
  have e0 : (x0 != x0) = false := by simp
  go_enter Tryd.func13, Tryd.ntmps13
  go_wp2_with fail
  go_wp2_with (go_at_call 34; refine (eqDitchS_x _ _ _ _ _ xs1 _ hn1 ((ha1.below (by repeat (first | assumption | exact Below.refl _ _ | (refine Below.setCell ?_ (by first | omega | (simp; done) | (simp; omega)) _) | apply below_drewN | apply Below.drew | (refine Below.alloc ?_ (by first | omega | (simp; done) | (simp; omega)) _)))).mono (by first | omega | (simp; done) | (simp; omega))) ((hb1.below (by repeat (first | assumption | exact Below.refl _ _ | (refine Below.setCell ?_ (by first | omega | (simp; done) | (simp; omega)) _) | apply below_drewN | apply Below.drew | (refine Below.alloc ?_ (by first | omega | (simp; done) | (simp; omega)) _)))).mono (by first | omega | (simp; done) | (simp; omega)))).mono ?_; rintro e1 W1 ⟨rfl, b1⟩)
  go_ret
  exact ⟨rfl, (by repeat (first | assumption | exact Below.refl _ _ | (refine Below.trans ?_ (b1.mono (by first | omega | (simp; done) | (simp; omega)))) | (refine Below.setCell ?_ (by first | omega | (simp; done) | (simp; omega)) _) | apply below_drewN | apply Below.drew | (refine Below.alloc ?_ (by first | omega | (simp; done) | (simp; omega)) _)))⟩
end Go.Proofs.YtnjadniidbbhcaaDoor
