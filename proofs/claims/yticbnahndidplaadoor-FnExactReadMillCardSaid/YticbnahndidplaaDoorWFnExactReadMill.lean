/- The law of ReadMill. -/
import Derived.Test.YticbnahndidplaaDoorMlI
import Derived.Test.YticbnahndidplaaDoorRMill
import Derived.Test.YticbnahndidplaaDoorWFnExactReadDecimal
import Derived.Shelf.Vars
namespace Go.Proofs.YticbnahndidplaaDoor
open Go.RowKit

theorem ml_of {w : World} (hsh : w.ShapedOpen Tryd.prog) : ∃ m, w.cell? ⟨0, 0, none⟩ = some (.int .i64 m) :=
  Go.Proofs.cell_of_shapedOpen_int (P := Tryd.prog) (g := 0) (t := 3) (zero := #[.int .i64 0]) hsh (of_decide_eq_true (by kernel_rfl)) (by kernel_rfl) rfl (by kernel_rfl) (by kernel_rfl) Tryd.underlying3

set_option maxHeartbeats 1600000 in
theorem walk_FnExactReadMill (a0 : ByteArray) (w : World) (w0 : a0.size ≤ maxLen) (hL : laidMetH Tryd.prog Rows.fnExactReadMillRow.laid w) (hml : ∃ m, w.cell? ⟨0, 0, none⟩ = some (.int .i64 m)) :
    Calls Tryd.prog 6 #[.string a0] w fun e w' => e = .returned (.bool true) ∧ Below w.heap.size w w' := by
  rw [MakeChecks.laidMetH_plain _ _ _ (by kernel_rfl)] at hL
  have env : NumEnv w := ⟨pow_of_laid hL (.tail _ (.tail _ (.head _))),
    err_of_laid hL (.tail _ (.tail _ (.tail _ (.tail _ (.head _))))) (by kernel_rfl) (t := 113) (by kernel_rfl) Tryd.underlying113 ⟨_, _, rfl⟩,
    err_of_laid hL (.tail _ (.tail _ (.tail _ (.head _)))) (by kernel_rfl) (t := 113) (by kernel_rfl) Tryd.underlying113 ⟨_, _, rfl⟩⟩
  obtain ⟨ml, hm⟩ := hml
  have hg : 0 < w.heap.size := World.block_lt_of_cell? _ _ hm
  have HE := Lib.hid env
  have HM := Lib.hid hm
  have HG := Lib.hid hg
  clear hL env hm hg
  unfold maxLen at w0
  by_cases hn : a0.size ≤ 1048576
  · obtain ⟨res, hres⟩ := ml_res a0
    obtain ⟨va, hva⟩ : ∃ v, v = (res.getD (0, 0, 0, 0)).1 := ⟨_, rfl⟩
    obtain ⟨vb, hvb⟩ : ∃ v, v = (res.getD (0, 0, 0, 0)).2.1 := ⟨_, rfl⟩
    obtain ⟨vc, hvc⟩ : ∃ v, v = (res.getD (0, 0, 0, 0)).2.2.1 := ⟨_, rfl⟩
    obtain ⟨vd, hvd⟩ : ∃ v, v = (res.getD (0, 0, 0, 0)).2.2.2 := ⟨_, rfl⟩
    obtain ⟨v, hv⟩ : ∃ v, v = res.isSome := ⟨_, rfl⟩
    have SP := Lib.hid (show ∀ W : World, Calls Tryd.prog 21 #[.string a0] W fun e w' => e = .returned (.tuple #[.agg #[.int .i64 va, .int .i64 vb, .int .i64 vc, .int .i64 vd], .bool v]) ∧ Below W.heap.size W w' from fun W => by rw [hva, hvb, hvc, hvd, hv]; exact rm_spec _ _ hn _ hres)
    have IM := Lib.hid (show ∀ W : World, NumEnv W → W.cell? ⟨0, 0, none⟩ = some (.int .i64 ml) → Calls Tryd.prog 22 #[.string a0] W fun e w' => e = .returned (.tuple #[.agg #[.int .i64 va, .int .i64 vb, .int .i64 vc, .int .i64 vd], .bool v]) ∧ Below W.heap.size W w' from fun W h1 h2 => by rw [hva, hvb, hvc, hvd, hv]; exact rm_impl _ _ hn h1 ml h2 _ hres)
    have e2 : (v != v) = false := by simp
    clear hres hva hvb hvc hvd hv
    go_enter Tryd.func6, Tryd.ntmps6
    go_wp2_with fail
    refine (SP.out _).mono ?_
    rintro e1 W1 ⟨rfl, b1⟩
    have A1 : Below W1.heap.size W1 (W1.alloc (.cells #[.int .i64 va, .int .i64 vb, .int .i64 vc, .int .i64 vd] 36)) := Below.alloc (Below.refl _ _) (Nat.le_refl _) _
    have D1 := b1.trans (A1.mono b1.size)
    have z0 : (W1.alloc (.cells #[.int .i64 va, .int .i64 vb, .int .i64 vc, .int .i64 vd] 36)).cell? ⟨W1.heap.size, 0, none⟩ = some (.int .i64 va) := by simp
    have z1 : (W1.alloc (.cells #[.int .i64 va, .int .i64 vb, .int .i64 vc, .int .i64 vd] 36)).cell? ⟨W1.heap.size, 1, none⟩ = some (.int .i64 vb) := by simp
    have z2 : (W1.alloc (.cells #[.int .i64 va, .int .i64 vb, .int .i64 vc, .int .i64 vd] 36)).cell? ⟨W1.heap.size, 2, none⟩ = some (.int .i64 vc) := by simp
    have z3 : (W1.alloc (.cells #[.int .i64 va, .int .i64 vb, .int .i64 vc, .int .i64 vd] 36)).cell? ⟨W1.heap.size, 3, none⟩ = some (.int .i64 vd) := by simp
    have s1 : W1.heap.size < (W1.alloc (.cells #[.int .i64 va, .int .i64 vb, .int .i64 vc, .int .i64 vd] 36)).heap.size := by simp
    go_wp2_with fail
    generalize W1.alloc (.cells #[.int .i64 va, .int .i64 vb, .int .i64 vc, .int .i64 vd] 36) = X1 at A1 D1 z0 z1 z2 z3 s1 ⊢
    refine (IM.out _ (HE.out.below D1) ((D1.cell (p := ⟨0, 0, none⟩) HG.out).trans HM.out)).mono ?_
    rintro e2 W2 ⟨rfl, b2⟩
    have D2 := D1.trans (b2.mono D1.size)
    have y0 := (b2.cell (p := ⟨W1.heap.size, 0, none⟩) s1).trans z0
    have y1 := (b2.cell (p := ⟨W1.heap.size, 1, none⟩) s1).trans z1
    have y2 := (b2.cell (p := ⟨W1.heap.size, 2, none⟩) s1).trans z2
    have y3 := (b2.cell (p := ⟨W1.heap.size, 3, none⟩) s1).trans z3
    have s2 : W1.heap.size < W2.heap.size := Nat.lt_of_lt_of_le s1 b2.size
    clear A1 b1 z0 z1 z2 z3 b2 D1
    have A2 : Below W2.heap.size W2 (W2.alloc (.cells #[.int .i64 va, .int .i64 vb, .int .i64 vc, .int .i64 vd] 36)) := Below.alloc (Below.refl _ _) (Nat.le_refl _) _
    have D3 := D2.trans (A2.mono D2.size)
    go_wp2_with fail
    refine (eqMill_x _ _ _ _ _).mono ?_
    rintro e3 W3 ⟨rfl, b3⟩
    have D4 := D3.trans (b3.mono D3.size)
    clear b3 D3 A2 D2
    go_wp2
    go_ret
    exact ⟨rfl, D4⟩
  · go_enter Tryd.func6, Tryd.ntmps6
    go_wp2
    go_ret
    exact ⟨rfl, Below.refl _ _⟩


end Go.Proofs.YticbnahndidplaaDoor
