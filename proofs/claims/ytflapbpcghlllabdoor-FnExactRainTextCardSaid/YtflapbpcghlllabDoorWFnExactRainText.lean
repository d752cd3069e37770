/- The law of RainText. -/
import Derived.Test.YtflapbpcghlllabDoorRainT
namespace Go.Proofs.YtflapbpcghlllabDoor
open Go.RowKit

theorem walk_FnExactRainText (a0 : Int) (w : World) (_w0 : (Lit.int .i64 a0).wf = true) (hL : laidMetH Tryd.prog Rows.fnExactRainTextRow.laid w) :
    Calls Tryd.prog 3 #[.int .i64 a0] w fun e w' => e = .returned (.bool true) ∧ Below w.heap.size w w' := by
  rw [MakeChecks.laidMetH_plain _ _ _ (by kernel_rfl)] at hL
  have HP := Lib.hid (show PowTab w from pow_of_laid hL (by first | exact .tail _ (.tail _ (.head _)) | exact .tail _ (.head _) | exact .head _))
  have hd : (rainT a0).toList = (rainT a0).toList := rfl
  clear hd hL
  go_enter Tryd.func3, Tryd.ntmps3
  go_wp2_with (first
    | (go_at_call 5; refine (rtext_any _ _).mono ?_; rintro e w1 ⟨rfl, b1⟩)
    | (go_at_call 6; refine (itext_any _ _ (pow_below HP.out b1)).mono ?_; rintro e w2 ⟨rfl, b2⟩)
    | go_in)
  go_ret
  exact ⟨rfl, b1.trans (b2.mono b1.size)⟩

end Go.Proofs.YtflapbpcghlllabDoor
