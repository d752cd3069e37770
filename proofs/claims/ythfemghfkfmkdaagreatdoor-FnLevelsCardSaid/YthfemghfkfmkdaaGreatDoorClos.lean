/- The closures that indicesWhere is given: levels that differ, that rise, the lowest cells, sections lower than a height. -/
import Derived.Test.YthfemghfkfmkdaaGreatDoorIxL
import Derived.Test.YthfemghfkfmkdaaGreatDoorIn
import Derived.IntWalk
namespace Go.Proofs.YthfemghfkfmkdaaGreatDoor
open Go.RowKit

theorem cell_1of2 (w : World) (v : Value) (E : TypeId) (b : Obj) : ((w.alloc (.cells #[v] E)).alloc b).cell? ⟨w.heap.size, 0, none⟩ = some v :=
  (((Below.refl (w.alloc (.cells #[v] E)).heap.size (w.alloc (.cells #[v] E))).alloc (Nat.le_refl _) b).cell (p := ⟨w.heap.size, 0, none⟩) (by simp)).trans ((World.cell?_alloc_new (w := w) #[v] E 0).trans rfl)
theorem cell_2of2 (w : World) (a : Obj) (v : Value) (E : TypeId) : ((w.alloc a).alloc (.cells #[v] E)).cell? ⟨w.heap.size + 1, 0, none⟩ = some v := by
  have e : (w.alloc a).heap.size = w.heap.size + 1 := by simp
  rw [← e]
  exact (World.cell?_alloc_new (w := w.alloc a) #[v] E 0).trans rfl
theorem cell_low2 (w : World) (a b : Obj) (k o : Nat) (h : k < w.heap.size) : ((w.alloc a).alloc b).cell? ⟨k, o, none⟩ = w.cell? ⟨k, o, none⟩ :=
  ((((Below.refl w.heap.size w).alloc (Nat.le_refl _) a).alloc (by simp) b).cell (p := ⟨k, o, none⟩) h)

set_option maxHeartbeats 1600000 in
theorem wgCl_t (B1 B2 B3 h n c ab o : Nat) (hi mid most x : Int) (w : World) (e : hi = (h : Int)) (hh : h < n) (hn : n ≤ 1048576) (c1 : w.cell? ⟨B1, 0, none⟩ = some (.slice (some ⟨ab, o, none⟩) n c)) (c2 : w.cell? ⟨B2, 0, none⟩ = some (.int .i64 mid)) (c3 : w.cell? ⟨B3, 0, none⟩ = some (.int .i64 most)) (c4 : w.cell? ⟨ab, o + h, none⟩ = some (.int .i64 x)) (m1 : -2000 ≤ mid ∧ mid ≤ 2000) (m2 : 0 ≤ most ∧ most ≤ 4000) (v : Bool) (hv : v = decide (x < mid - most ∨ mid + most < x)) :
    Calls Tryz.prog 35 #[.int .i64 hi, .pointer (some ⟨B1, 0, none⟩), .pointer (some ⟨B2, 0, none⟩), .pointer (some ⟨B3, 0, none⟩)] w fun e w' => e = .returned (.bool v) ∧ Below w.heap.size w w' := by
  subst e
  obtain ⟨m11, m12⟩ := m1
  obtain ⟨m21, m22⟩ := m2
  have f1 := IntWalk.i64_in (mid - most) (by omega)
  have f2 := IntWalk.i64_in (mid + most) (by omega)
  have g0 : (0 : Int) ≤ (h : Int) := by omega
  have g1 : (h : Int) < (n : Int) := by omega
  by_cases q : x < mid - most ∨ mid + most < x
  · obtain rfl : v = true := by rw [hv]; exact decide_eq_true q
    clear hv
    go_enter Tryz.func35, Tryz.ntmps35
    go_wp2
    go_quiet ((go_at_call 32; exact Calls.quiet_of_same ((within_f _ _ _ _ q).mono fun _ _ h => ⟨h.1, h.2.symm⟩)))
    go_wp2
    go_ret
    exact ⟨rfl, (by repeat (first | assumption | exact Below.refl _ _ | (refine Below.setCell ?_ (by first | omega | (simp; done) | (simp; omega)) _) | apply below_drewN | apply Below.drew | (refine Below.alloc ?_ (by first | omega | (simp; done) | (simp; omega)) _)))⟩
  · obtain rfl : v = false := by rw [hv]; exact decide_eq_false q
    have q2 : mid - most ≤ x ∧ x ≤ mid + most := by omega
    clear hv q
    go_enter Tryz.func35, Tryz.ntmps35
    go_wp2
    go_quiet ((go_at_call 32; exact Calls.quiet_of_same ((within_t _ _ _ _ q2).mono fun _ _ h => ⟨h.1, h.2.symm⟩)))
    go_wp2
    go_ret
    exact ⟨rfl, (by repeat (first | assumption | exact Below.refl _ _ | (refine Below.setCell ?_ (by first | omega | (simp; done) | (simp; omega)) _) | apply below_drewN | apply Below.drew | (refine Below.alloc ?_ (by first | omega | (simp; done) | (simp; omega)) _)))⟩

set_option maxHeartbeats 1600000 in
theorem rfCl_t (B1 B2 h n c ab o : Nat) (hi y x0 x1 : Int) (w : World) (e : hi = (h : Int)) (hh : h < n) (hn : n ≤ 1048576) (c1 : w.cell? ⟨B1, 0, none⟩ = some (.slice (some ⟨ab, o, none⟩) n c)) (c2 : w.cell? ⟨B2, 0, none⟩ = some (.int .i64 y)) (c4 : w.cell? ⟨ab, o + h, none⟩ = some (.int .i64 x1)) (c5 : w.cell? ⟨ab, o + (h - 1), none⟩ = some (.int .i64 x0)) (m1 : -2000 ≤ x1 ∧ x1 ≤ 2000) (m2 : -2000 ≤ x0 ∧ x0 ≤ 2000) (v : Bool) (hv : v = decide (1 ≤ h ∧ y ≤ x1 - x0)) :
    Calls Tryz.prog 45 #[.int .i64 hi, .pointer (some ⟨B1, 0, none⟩), .pointer (some ⟨B2, 0, none⟩)] w fun e w' => e = .returned (.bool v) ∧ Below w.heap.size w w' := by
  subst e
  obtain ⟨m11, m12⟩ := m1
  obtain ⟨m21, m22⟩ := m2
  have f1 := IntWalk.i64_in (x1 - x0) (by omega)
  rcases Nat.eq_zero_or_pos h with h0 | h0
  · obtain rfl : v = false := by rw [hv]; exact decide_eq_false (by omega)
    have g1 : decide ((h : Int) > 0) = false := by simp; omega
    have g2 : ¬ 0 < h := by omega
    clear hv h0 c5
    go_enter Tryz.func45, Tryz.ntmps45
    go_wp2
    go_quiet (fail)
    go_wp2
    go_ret
    exact ⟨rfl, (by repeat (first | assumption | exact Below.refl _ _ | (refine Below.setCell ?_ (by first | omega | (simp; done) | (simp; omega)) _) | apply below_drewN | apply Below.drew | (refine Below.alloc ?_ (by first | omega | (simp; done) | (simp; omega)) _)))⟩
  · obtain ⟨k, hk⟩ : ∃ k, k = h - 1 := ⟨_, rfl⟩
    rw [← hk] at c5
    have x2 : (h : Int) - 1 = (k : Int) := by omega
    have g1 : decide ((h : Int) > 0) = true := by simp; omega
    have g0 : (0 : Int) ≤ (h : Int) := by omega
    have g3 : (h : Int) < (n : Int) := by omega
    have g4 : (k : Int) < (n : Int) := by omega
    have HV := Lib.hid (show v = decide (y ≤ x1 - x0) by rw [hv]; exact decide_eq_decide.2 ⟨fun q => q.2, fun q => ⟨by omega, q⟩⟩)
    clear hv hk
    go_enter Tryz.func45, Tryz.ntmps45
    go_wp2
    go_quiet (fail)
    go_wp2
    go_ret
    exact ⟨ret_bool HV.out.symm, (by repeat (first | assumption | exact Below.refl _ _ | (refine Below.setCell ?_ (by first | omega | (simp; done) | (simp; omega)) _) | apply below_drewN | apply Below.drew | (refine Below.alloc ?_ (by first | omega | (simp; done) | (simp; omega)) _)))⟩
end Go.Proofs.YthfemghfkfmkdaaGreatDoor
