/- Contracts of the laws' helpers over lands: size, copy, equal, mark, held. -/
import Derived.Test.YtcimigaimlojlaaLandP
import Derived.Deep.RegionHeld3
namespace Go.Proofs.Ytcimigaimlojlaa
open Go.RowKit

set_option maxHeartbeats 400000 in
theorem szLand_ok (r c : Int) (A : Option Addr) (n k : Nat) (left : Int) (w : World) (h : (n : Int) ≤ left) (h2 : left ≤ 1048576) :
    Calls Try.prog 29 #[.agg #[.int .i64 r, .int .i64 c, .slice A n k], .int .i64 left] w fun e w' => e = .returned (.int .i64 (left - (n : Int))) ∧ Below w.heap.size w w' := by
  go_enter Try.func29, Try.ntmps29
  go_wp2
  go_ret
  exact ⟨rfl, (by repeat (first | assumption | exact Below.refl _ _ | (refine Below.setCell ?_ (by first | omega | (simp; done) | (simp; omega)) _) | apply below_drewN | apply Below.drew | (refine Below.alloc ?_ (by first | omega | (simp; done) | (simp; omega)) _)))⟩

set_option maxHeartbeats 400000 in
theorem szLand_no (r c : Int) (A : Option Addr) (n k : Nat) (left : Int) (w : World) (hn : n ≤ maxLen) (h : left < (n : Int)) (h2 : 0 ≤ left) :
    Calls Try.prog 29 #[.agg #[.int .i64 r, .int .i64 c, .slice A n k], .int .i64 left] w fun e w' => e = .returned (.int .i64 (-1)) ∧ Below w.heap.size w w' := by
  unfold maxLen at hn
  go_enter Try.func29, Try.ntmps29
  go_wp2
  go_ret
  exact ⟨rfl, (by repeat (first | assumption | exact Below.refl _ _ | (refine Below.setCell ?_ (by first | omega | (simp; done) | (simp; omega)) _) | apply below_drewN | apply Below.drew | (refine Below.alloc ?_ (by first | omega | (simp; done) | (simp; omega)) _)))⟩

set_option maxHeartbeats 400000 in
theorem toLand_x (r c : Int) (A : Option Addr) (n k : Nat) (xs : List Int) (w : World) (hn : n ≤ 1048576) (ha : Rd w w.heap.size A n xs) :
    Calls Try.prog 31 #[.agg #[.int .i64 r, .int .i64 c, .slice A n k]] w fun e w' => ∃ B d, e = .returned (.agg #[.int .i64 r, .int .i64 c, .slice B n d]) ∧ Below w.heap.size w w' ∧ Wr w' w.heap.size B n xs := by
  go_enter Try.func31, Try.ntmps31
  go_wp2_with fail
  go_wp2_with (go_at_call 17; refine (toInts_x _ _ _ xs _ hn ((ha.below (by repeat (first | assumption | exact Below.refl _ _ | (refine Below.setCell ?_ (by first | omega | (simp; done) | (simp; omega)) _) | apply below_drewN | apply Below.drew | (refine Below.alloc ?_ (by first | omega | (simp; done) | (simp; omega)) _)))).mono (by first | omega | (simp; done) | (simp; omega)))).mono ?_; rintro e1 W1 ⟨B1, d1, rfl, b1, x1⟩; have z1 : w.heap.size + 3 ≤ W1.heap.size := (by have := b1.size; simp at this; omega); obtain ⟨c1, f1⟩ := bcell b1)
  exact bodyPost_ret (v := .agg #[.int .i64 r, .int .i64 c, .slice B1 n d1]) (by simp [results, Try.results31, go_sem, c1, z1]) rfl ⟨_, _, rfl, (by repeat (first | assumption | exact Below.refl _ _ | (refine Below.trans ?_ (b1.mono (by first | omega | (simp; done) | (simp; omega)))) | (refine Below.setCell ?_ (by first | omega | (simp; done) | (simp; omega)) _) | apply below_drewN | apply Below.drew | (refine Below.alloc ?_ (by first | omega | (simp; done) | (simp; omega)) _))), (x1.abv (by repeat (first | exact Abv.refl _ _ | (refine Abv.setCell ?_ (by first | omega | (simp; done) | (simp; omega)) _) | apply Abv.drewN | apply Abv.drew | (refine Abv.alloc ?_ _)))).lower (by first | omega | (simp; done) | (simp; omega))⟩

set_option maxHeartbeats 400000 in
theorem eqLand_x (r c : Int) (A B : Option Addr) (n k l : Nat) (xs : List Int) (w : World) (hn : n ≤ 1048576) (ha : Rd w w.heap.size A n xs) (hb : Rd w w.heap.size B n xs) :
    Calls Try.prog 34 #[.agg #[.int .i64 r, .int .i64 c, .slice A n k], .agg #[.int .i64 r, .int .i64 c, .slice B n l]] w fun e w' => e = .returned (.bool true) ∧ Below w.heap.size w w' := by
  have e1 : (r != r) = false := by simp
  have e2 : (c != c) = false := by simp
  go_enter Try.func34, Try.ntmps34
  go_wp2_with fail
  go_wp2_with (go_at_call 20; refine (eqInt64S_x _ _ _ _ _ xs _ hn ((ha.below (by repeat (first | assumption | exact Below.refl _ _ | (refine Below.setCell ?_ (by first | omega | (simp; done) | (simp; omega)) _) | apply below_drewN | apply Below.drew | (refine Below.alloc ?_ (by first | omega | (simp; done) | (simp; omega)) _)))).mono (by first | omega | (simp; done) | (simp; omega))) ((hb.below (by repeat (first | assumption | exact Below.refl _ _ | (refine Below.setCell ?_ (by first | omega | (simp; done) | (simp; omega)) _) | apply below_drewN | apply Below.drew | (refine Below.alloc ?_ (by first | omega | (simp; done) | (simp; omega)) _)))).mono (by first | omega | (simp; done) | (simp; omega)))).mono ?_; rintro e1 W1 ⟨rfl, b1⟩)
  go_ret
  exact ⟨rfl, (by repeat (first | assumption | exact Below.refl _ _ | (refine Below.trans ?_ (b1.mono (by first | omega | (simp; done) | (simp; omega)))) | (refine Below.setCell ?_ (by first | omega | (simp; done) | (simp; omega)) _) | apply below_drewN | apply Below.drew | (refine Below.alloc ?_ (by first | omega | (simp; done) | (simp; omega)) _)))⟩

set_option maxHeartbeats 400000 in
theorem markLand_x (lo hi : Nat) (r c : Int) (A : Option Addr) (n k : Nat) (xs : List Int) (k0 : Int) (w : World) (h1 : 0 ≤ k0) (h2 : k0 ≤ 140737488355328) (hh : hi ≤ w.heap.size) (hn : n ≤ 1048576) (ha : Wr w lo A n xs) (hL : Lt hi A n) :
    Calls Try.prog 35 #[.agg #[.int .i64 r, .int .i64 c, .slice A n k], .int .i64 k0] w fun e w' => e = .returned (.int .i64 (k0 + (n : Int))) ∧ Chg lo hi w w' ∧ Wr w' lo A n (marks k0 n) := by
  go_enter Try.func35, Try.ntmps35
  go_wp2_with fail
  go_wp2_with (go_at_call 21; refine (markInt64S_x lo hi _ _ _ xs _ _ h1 h2 (by first | omega | (simp; done) | (simp; omega)) hn (ha.below (by repeat (first | assumption | exact Below.refl _ _ | (refine Below.setCell ?_ (by first | omega | (simp; done) | (simp; omega)) _) | apply below_drewN | apply Below.drew | (refine Below.alloc ?_ (by first | omega | (simp; done) | (simp; omega)) _)))) hL).mono ?_; rintro e1 W1 ⟨rfl, b1, x1⟩)
  go_ret
  exact ⟨rfl, Chg.trans' (by repeat (first | assumption | exact Below.refl _ _ | (refine Below.setCell ?_ (by first | omega | (simp; done) | (simp; omega)) _) | apply below_drewN | apply Below.drew | (refine Below.alloc ?_ (by first | omega | (simp; done) | (simp; omega)) _))) b1, x1⟩
end Go.Proofs.Ytcimigaimlojlaa
