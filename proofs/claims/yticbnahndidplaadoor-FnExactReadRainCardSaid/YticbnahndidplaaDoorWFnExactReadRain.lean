/- The law of ReadRain. -/
import Derived.Test.YticbnahndidplaaDoorRainK
import Derived.Test.YticbnahndidplaaDoorRainS
import Derived.Test.YticbnahndidplaaDoorWFnExactReadDecimal
import Derived.Shelf.Vars
namespace Go.Proofs.YticbnahndidplaaDoor
open Go.RowKit

theorem ml_of {w : World} (hsh : w.ShapedOpen Tryd.prog) : ∃ m, w.cell? ⟨0, 0, none⟩ = some (.int .i64 m) :=
  Go.Proofs.cell_of_shapedOpen_int (P := Tryd.prog) (g := 0) (t := 3) (zero := #[.int .i64 0]) hsh (of_decide_eq_true (by kernel_rfl)) (by kernel_rfl) rfl (by kernel_rfl) (by kernel_rfl) Tryd.underlying3

set_option maxHeartbeats 400000 in
theorem walk_FnExactReadRain (a0 : ByteArray) (w : World) (w0 : a0.size ≤ maxLen) (hL : laidMetH Tryd.prog Rows.fnExactReadRainRow.laid w) (hml : ∃ m, w.cell? ⟨0, 0, none⟩ = some (.int .i64 m)) :
    Calls Tryd.prog 3 #[.string a0] w fun e w' => e = .returned (.bool true) ∧ Below w.heap.size w w' := by
  rw [MakeChecks.laidMetH_plain _ _ _ (by kernel_rfl)] at hL
  have env : NumEnv w := ⟨pow_of_laid hL (.tail _ (.tail _ (.head _))),
    err_of_laid hL (.tail _ (.tail _ (.tail _ (.tail _ (.head _))))) (by kernel_rfl) (t := 113) (by kernel_rfl) Tryd.underlying113 ⟨_, _, rfl⟩,
    err_of_laid hL (.tail _ (.tail _ (.tail _ (.head _)))) (by kernel_rfl) (t := 113) (by kernel_rfl) Tryd.underlying113 ⟨_, _, rfl⟩⟩
  obtain ⟨ml, hm⟩ := hml
  have hg : 0 < w.heap.size := World.block_lt_of_cell? _ _ hm
  have HE := Lib.hid env
  have HM := Lib.hid hm
  have HG := Lib.hid hg
  clear hL env hm hg
  unfold maxLen at w0
  by_cases hn : a0.size ≤ 1048576
  · obtain ⟨res, hres⟩ := rn_res a0
    have HR := Lib.hid hres
    have e1 : (res.getD 0 != res.getD 0) = false := by simp
    have e2 : (res.isSome != res.isSome) = false := by simp
    clear hres
    go_enter Tryd.func3, Tryd.ntmps3
    go_wp2_with (first
      | (go_at_call 9; refine (rr_spec _ _ hn _ HR.out).mono ?_; rintro e w1 ⟨rfl, b1⟩)
      | (go_at_call 10; refine (rr_impl _ _ hn (HE.out.below b1) ml ((b1.cell (p := ⟨0, 0, none⟩) HG.out).trans HM.out) _ HR.out).mono ?_; rintro e w2 ⟨rfl, b2⟩)
      | go_in)
    go_ret
    exact ⟨rfl, b1.trans (b2.mono b1.size)⟩
  · go_enter Tryd.func3, Tryd.ntmps3
    go_wp2
    go_ret
    exact ⟨rfl, Below.refl _ _⟩


end Go.Proofs.YticbnahndidplaaDoor
