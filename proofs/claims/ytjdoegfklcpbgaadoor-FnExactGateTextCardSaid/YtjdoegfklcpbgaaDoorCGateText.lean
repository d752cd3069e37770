/- The text of a sluice's state. -/
import Derived.Test.YtjdoegfklcpbgaaDoorGTx
namespace Go.Proofs.YtjdoegfklcpbgaaDoor
open Go.RowKit

def r0_GateText (a0_0 : Bool) (a0_1 : Int) (a0_2 : Int) : ByteArray := if gtOk a0_1 a0_2 then gT a0_0 a0_1 a0_2 else ⟨#[]⟩

set_option maxHeartbeats 800000 in
theorem specC_GateText (a0_0 : Bool) (a0_1 : Int) (a0_2 : Int) (w : World) (ha0_1 : (Lit.int .i64 a0_1).wf = true) (ha0_2 : (Lit.int .i64 a0_2).wf = true) :
    Calls Tryd.prog 5 #[.agg #[.bool a0_0, .int .i64 a0_1, .int .i64 a0_2]] w fun e w' => e = .returned (.string (r0_GateText a0_0 a0_1 a0_2)) ∧ Below w.heap.size w w' := by
  by_cases h : gtOk a0_1 a0_2
  · rw [show r0_GateText a0_0 a0_1 a0_2 = gT a0_0 a0_1 a0_2 from if_pos h]
    exact gtspec a0_0 a0_1 a0_2 w h _ rfl
  · rw [show r0_GateText a0_0 a0_1 a0_2 = ⟨#[]⟩ from if_neg h]
    have HV := Lib.hid (show false = decide (gtOk a0_1 a0_2) from (decide_eq_false h).symm)
    clear h
    go_enter Tryd.func5, Tryd.ntmps5
    go_wp2_with (go_at_call 24; refine (gtS_any _ _ _ _ _ HV.out).mono ?_; rintro e0 W0 ⟨rfl, b0⟩)
    go_ret
    exact ⟨rfl, (by repeat (first | assumption | exact Below.refl _ _ | (refine Below.trans ?_ (b0.mono (by first | omega | (simp; done) | (simp; omega)))) | (refine Below.setCell ?_ (by first | omega | (simp; done) | (simp; omega)) _) | apply below_drewN | apply Below.drew | (refine Below.alloc ?_ (by first | omega | (simp; done) | (simp; omega)) _)))⟩

set_option maxHeartbeats 800000 in
theorem implC_GateText (a0_0 : Bool) (a0_1 : Int) (a0_2 : Int) (w : World) (ha0_1 : (Lit.int .i64 a0_1).wf = true) (ha0_2 : (Lit.int .i64 a0_2).wf = true) (hpow : PowTab w) :
    Calls Tryd.prog 7 #[.agg #[.bool a0_0, .int .i64 a0_1, .int .i64 a0_2]] w fun e w' => e = .returned (.string (r0_GateText a0_0 a0_1 a0_2)) ∧ Below w.heap.size w w' := by
  by_cases h : gtOk a0_1 a0_2
  · rw [show r0_GateText a0_0 a0_1 a0_2 = gT a0_0 a0_1 a0_2 from if_pos h]
    exact gtimpl a0_0 a0_1 a0_2 w hpow h _ rfl
  · rw [show r0_GateText a0_0 a0_1 a0_2 = ⟨#[]⟩ from if_neg h]
    have HV := Lib.hid (show false = decide (gtOk a0_1 a0_2) from (decide_eq_false h).symm)
    clear h
    go_enter Tryd.func7, Tryd.ntmps7
    go_wp2_with (go_at_call 20; refine (gtI_any _ _ _ _ _ HV.out).mono ?_; rintro e0 W0 ⟨rfl, b0⟩)
    go_ret
    exact ⟨rfl, (by repeat (first | assumption | exact Below.refl _ _ | (refine Below.trans ?_ (b0.mono (by first | omega | (simp; done) | (simp; omega)))) | (refine Below.setCell ?_ (by first | omega | (simp; done) | (simp; omega)) _) | apply below_drewN | apply Below.drew | (refine Below.alloc ?_ (by first | omega | (simp; done) | (simp; omega)) _)))⟩


end Go.Proofs.YtjdoegfklcpbgaaDoor
