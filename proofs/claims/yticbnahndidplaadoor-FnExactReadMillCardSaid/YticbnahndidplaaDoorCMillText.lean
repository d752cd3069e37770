/- The text of a mill. -/
import Derived.Test.YticbnahndidplaaDoorMTx
namespace Go.Proofs.YticbnahndidplaaDoor
open Go.RowKit

def r0_MillText (a0_0 : Int) (a0_1 : Int) (a0_2 : Int) (a0_3 : Int) : ByteArray := if mlOk a0_0 a0_1 a0_2 a0_3 then mT a0_0 a0_1 a0_2 a0_3 else ⟨#[]⟩

set_option maxHeartbeats 800000 in
theorem implC_MillText (a0_0 : Int) (a0_1 : Int) (a0_2 : Int) (a0_3 : Int) (w : World) (ha0_0 : (Lit.int .i64 a0_0).wf = true) (ha0_1 : (Lit.int .i64 a0_1).wf = true) (ha0_2 : (Lit.int .i64 a0_2).wf = true) (ha0_3 : (Lit.int .i64 a0_3).wf = true) (hpow : PowTab w) :
    Calls Tryd.prog 54 #[.agg #[.int .i64 a0_0, .int .i64 a0_1, .int .i64 a0_2, .int .i64 a0_3]] w fun e w' => e = .returned (.string (r0_MillText a0_0 a0_1 a0_2 a0_3)) ∧ Below w.heap.size w w' := by
  by_cases h : mlOk a0_0 a0_1 a0_2 a0_3
  · rw [show r0_MillText a0_0 a0_1 a0_2 a0_3 = mT a0_0 a0_1 a0_2 a0_3 from if_pos h]
    exact mtimpl a0_0 a0_1 a0_2 a0_3 w hpow h _ rfl
  · rw [show r0_MillText a0_0 a0_1 a0_2 a0_3 = ⟨#[]⟩ from if_neg h]
    have HV := Lib.hid (show false = decide (mlOk a0_0 a0_1 a0_2 a0_3) from (decide_eq_false h).symm)
    clear h
    go_enter Tryd.func54, Tryd.ntmps54
    go_wp2_with (go_at_call 80; refine (mlI_any _ _ _ _ _ _ HV.out).mono ?_; rintro e0 W0 ⟨rfl, b0⟩)
    go_ret
    exact ⟨rfl, (by repeat (first | assumption | exact Below.refl _ _ | (refine Below.trans ?_ (b0.mono (by first | omega | (simp; done) | (simp; omega)))) | (refine Below.setCell ?_ (by first | omega | (simp; done) | (simp; omega)) _) | apply below_drewN | apply Below.drew | (refine Below.alloc ?_ (by first | omega | (simp; done) | (simp; omega)) _)))⟩


end Go.Proofs.YticbnahndidplaaDoor
