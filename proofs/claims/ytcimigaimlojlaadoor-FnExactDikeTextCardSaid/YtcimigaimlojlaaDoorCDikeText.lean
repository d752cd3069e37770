import Derived.Test.YtcimigaimlojlaaDoorTxtI
namespace Go.Proofs.YtcimigaimlojlaaDoor
open Go.RowKit

set_option maxHeartbeats 400000 in
theorem specC_DikeText (a0 : Option Addr) (la0 ca0 : Nat) (xa0 : List RSection) (w : World) (ha0 : la0 ≤ 1048576) (ra0 : Rd_Section w w.heap.size a0 la0 xa0) (fa0 : Wf_Section xa0) :
    Calls Tryd.prog 8 #[.slice a0 la0 ca0] w fun e w' => e = .returned (.string (r0_DikeText xa0)) ∧ Below w.heap.size w w' := by
  have hln := ra0.len
  have RA := Lib.hid ra0
  clear ra0
  by_cases h : DkOk la0 xa0
  · have e0 : r0_DikeText xa0 = txN xa0 la0 := by unfold r0_DikeText; rw [hln, if_pos h]
    rw [e0]
    have HV := Lib.hid h
    clear e0 h
    go_enter Tryd.func8, Tryd.ntmps8
    go_wp2_with (first | (go_at_call 23; refine (l07Ok_any _ _ _ xa0 _ ha0 RA.out true ⟨fun _ => HV.out, fun _ => rfl⟩).mono ?_; rintro eo wo ⟨rfl, rfl⟩) | (go_at_call 24; refine (l07Text_t _ _ _ xa0 _ ha0 RA.out HV.out).mono ?_; rintro e1 w1 ⟨rfl, b1⟩))
    go_ret
    exact ⟨rfl, b1⟩
  · have e0 : r0_DikeText xa0 = ⟨#[]⟩ := by unfold r0_DikeText; rw [hln, if_neg h]
    rw [e0]
    have HV := Lib.hid h
    clear e0 h
    go_enter Tryd.func8, Tryd.ntmps8
    go_wp2_with (first | (go_at_call 23; refine (l07Ok_any _ _ _ xa0 _ ha0 RA.out false ⟨fun h => by simp at h, fun h => absurd h HV.out⟩).mono ?_; rintro eo wo ⟨rfl, rfl⟩))
    go_ret
    exact ⟨rfl, Below.refl _ _⟩

theorem implC_DikeText (a0 : Option Addr) (la0 ca0 : Nat) (xa0 : List RSection) (w : World) (ha0 : la0 ≤ 1048576) (ra0 : Rd_Section w w.heap.size a0 la0 xa0) (_fa0 : Wf_Section xa0) (hpow : PowTab w) :
    Calls Tryd.prog 10 #[.slice a0 la0 ca0] w fun e w' => e = .returned (.string (r0_DikeText xa0)) ∧ Below w.heap.size w w' := dikeText_t a0 la0 ca0 xa0 w ha0 ra0 hpow

end Go.Proofs.YtcimigaimlojlaaDoor
