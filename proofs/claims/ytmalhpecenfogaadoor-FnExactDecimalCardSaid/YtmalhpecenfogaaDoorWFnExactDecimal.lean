import Derived.Test.YtmalhpecenfogaaDoorDecI
namespace Go.Proofs.YtmalhpecenfogaaDoor
open Go.RowKit

theorem i64_of_wf {n : Int} (h : (Lit.int .i64 n).wf = true) : I64 n := by
  have := bounds_i64 h
  exact this

theorem walk_FnExactDecimal (a0 : Int) (w : World) (w0 : (Lit.int .i64 a0).wf = true) (hL : laidMetH Tryd.prog Rows.fnExactDecimalRow.laid w) :
    Calls Tryd.prog 5 #[.int .i64 a0] w fun e w' => e = .returned (.bool true) ∧ Below w.heap.size w w' := by
  rw [MakeChecks.laidMetH_plain _ _ _ (by kernel_rfl)] at hL
  have ht := pow_of_laid hL (.tail _ (.tail _ (.head _)))
  have HN := Lib.hid (i64_of_wf w0)
  have HT := Lib.hid ht
  clear hL ht w0
  go_enter Tryd.func5, Tryd.ntmps5
  go_wp2_with (first
    | (go_at_call 30; refine (dec_spec _ _ HN.out).mono ?_; rintro e w1 ⟨rfl, b1⟩)
    | (go_at_call 9; refine (dec_impl _ _ HN.out (pow_below HT.out b1)).mono ?_; rintro e w2 ⟨rfl, b2⟩)
    | go_in)
  go_ret
  exact ⟨rfl, b1.trans (b2.mono b1.size)⟩


end Go.Proofs.YtmalhpecenfogaaDoor
