/- The closures that indicesWhere is given: levels that differ, that rise, the lowest cells, sections lower than a height. -/
import Derived.Test.YtagnhlcgfcppjaaIxL
import Derived.Test.YtagnhlcgfcppjaaIn
import Derived.IntWalk
namespace Go.Proofs.Ytagnhlcgfcppjaa
open Go.RowKit

theorem cell_1of2 (w : World) (v : Value) (E : TypeId) (b : Obj) : ((w.alloc (.cells #[v] E)).alloc b).cell? ⟨w.heap.size, 0, none⟩ = some v :=
  (((Below.refl (w.alloc (.cells #[v] E)).heap.size (w.alloc (.cells #[v] E))).alloc (Nat.le_refl _) b).cell (p := ⟨w.heap.size, 0, none⟩) (by simp)).trans ((World.cell?_alloc_new (w := w) #[v] E 0).trans rfl)
theorem cell_2of2 (w : World) (a : Obj) (v : Value) (E : TypeId) : ((w.alloc a).alloc (.cells #[v] E)).cell? ⟨w.heap.size + 1, 0, none⟩ = some v := by
  have e : (w.alloc a).heap.size = w.heap.size + 1 := by simp
  rw [← e]
  exact (World.cell?_alloc_new (w := w.alloc a) #[v] E 0).trans rfl
theorem cell_low2 (w : World) (a b : Obj) (k o : Nat) (h : k < w.heap.size) : ((w.alloc a).alloc b).cell? ⟨k, o, none⟩ = w.cell? ⟨k, o, none⟩ :=
  ((((Below.refl w.heap.size w).alloc (Nat.le_refl _) a).alloc (by simp) b).cell (p := ⟨k, o, none⟩) h)

set_option maxHeartbeats 1600000 in
theorem lwCl_t (B1 B2 h n c ab o : Nat) (hi y x : Int) (w : World) (e : hi = (h : Int)) (hh : h < n) (hn : n ≤ 1048576) (c1 : w.cell? ⟨B1, 0, none⟩ = some (.slice (some ⟨ab, o, none⟩) n c)) (c2 : w.cell? ⟨B2, 0, none⟩ = some (.int .i64 y)) (c4 : w.cell? ⟨ab, o + h * 2 + 1, none⟩ = some (.int .i64 x)) (v : Bool) (hv : v = decide (x < y)) :
    Calls Try.prog 89 #[.int .i64 hi, .pointer (some ⟨B1, 0, none⟩), .pointer (some ⟨B2, 0, none⟩)] w fun e w' => e = .returned (.bool v) ∧ Below w.heap.size w w' := by
  subst e
  have g0 : (0 : Int) ≤ (h : Int) := by omega
  have g1 : (h : Int) < (n : Int) := by omega
  have HV := Lib.hid hv
  clear hv
  go_enter Try.func89, Try.ntmps89
  go_wp2
  go_quiet (fail)
  go_wp2
  go_ret
  exact ⟨ret_bool HV.out.symm, (by repeat (first | assumption | exact Below.refl _ _ | (refine Below.setCell ?_ (by first | omega | (simp; done) | (simp; omega)) _) | apply below_drewN | apply Below.drew | (refine Below.alloc ?_ (by first | omega | (simp; done) | (simp; omega)) _)))⟩

end Go.Proofs.Ytagnhlcgfcppjaa
