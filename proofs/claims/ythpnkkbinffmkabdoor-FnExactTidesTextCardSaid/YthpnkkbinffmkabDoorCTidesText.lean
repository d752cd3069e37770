import Derived.Test.YthpnkkbinffmkabDoorTtI
namespace Go.Proofs.YthpnkkbinffmkabDoor
open Go.RowKit

set_option maxHeartbeats 400000 in
theorem specC_TidesText (a0 : Option Addr) (la0 ca0 : Nat) (xa0 : List RTide) (w : World) (ha0 : la0 ≤ 1048576) (ra0 : Rd_Tide w w.heap.size a0 la0 xa0) (fa0 : Wf_Tide xa0) (ka0 : la0 ≤ ca0) :
    Calls Tryd.prog 14 #[.slice a0 la0 ca0] w fun e w' => e = .returned (.string (r0_TidesText xa0)) ∧ Below w.heap.size w w' := by
  have hln := ra0.len
  have RA := Lib.hid ra0
  clear ra0
  by_cases h : TdOk la0 xa0
  · have e0 : r0_TidesText xa0 = txN xa0 la0 := by unfold r0_TidesText; rw [hln, if_pos h]
    rw [e0]
    have HV := Lib.hid h
    clear e0 h
    go_enter Tryd.func14, Tryd.ntmps14
    go_wp2_with (first | (go_at_call 31; refine (l08Ok_any _ _ _ xa0 _ ha0 RA.out true ⟨fun _ => HV.out, fun _ => rfl⟩).mono ?_; rintro eo wo ⟨rfl, b0⟩) | (go_at_call 32; refine (l08Text_t _ _ _ xa0 _ ha0 (RA.out.below' b0) HV.out).mono ?_; rintro e1 w1 ⟨rfl, b1⟩))
    go_ret
    exact ⟨rfl, b0.trans (b1.mono b0.size)⟩
  · have e0 : r0_TidesText xa0 = ⟨#[]⟩ := by unfold r0_TidesText; rw [hln, if_neg h]
    rw [e0]
    have HV := Lib.hid h
    clear e0 h
    go_enter Tryd.func14, Tryd.ntmps14
    go_wp2_with (first | (go_at_call 31; refine (l08Ok_any _ _ _ xa0 _ ha0 RA.out false ⟨fun h => by simp at h, fun h => absurd h HV.out⟩).mono ?_; rintro eo wo ⟨rfl, b0⟩))
    go_ret
    exact ⟨rfl, b0⟩

theorem implC_TidesText (a0 : Option Addr) (la0 ca0 : Nat) (xa0 : List RTide) (w : World) (ha0 : la0 ≤ 1048576) (ra0 : Rd_Tide w w.heap.size a0 la0 xa0) (_fa0 : Wf_Tide xa0) (ka0 : la0 ≤ ca0) (hpow : PowTab w) :
    Calls Tryd.prog 16 #[.slice a0 la0 ca0] w fun e w' => e = .returned (.string (r0_TidesText xa0)) ∧ Below w.heap.size w w' := tidesText_t a0 la0 ca0 xa0 w ha0 ka0 ra0 hpow

end Go.Proofs.YthpnkkbinffmkabDoor
