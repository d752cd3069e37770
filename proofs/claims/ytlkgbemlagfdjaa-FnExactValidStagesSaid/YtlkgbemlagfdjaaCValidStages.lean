/- Whether stages of mills are valid. -/
import Derived.Test.YtlkgbemlagfdjaaMilV
namespace Go.Proofs.Ytlkgbemlagfdjaa
open Go.RowKit

def r0_ValidStages (xa0 : List (List RMill)) : Bool := decide (stOk xa0.length xa0)

theorem specC_ValidStages (a0 : Option Addr) (la0 ca0 : Nat) (xa0 : List (List RMill)) (w : World) (ha0 : totSS xa0 ≤ 1048576) (ra0 : Rd_MillSS w w.heap.size a0 la0 xa0) (fa0 : Wf_MillSS xa0) :
    Calls Try.prog 21 #[.slice a0 la0 ca0] w fun e w' => e = .returned (.bool (r0_ValidStages xa0)) ∧ Below w.heap.size w w' := by
  have hln := ra0.1
  have RA := Lib.hid ra0
  obtain ⟨v, hv⟩ : ∃ v, v = r0_ValidStages xa0 := ⟨_, rfl⟩
  rw [← hv]
  have HV := Lib.hid (show v = decide (stOk la0 xa0) by rw [hv, ← hln]; rfl)
  clear hv ra0
  go_enter Try.func21, Try.ntmps21
  go_wp2_with (go_at_call 59; refine (l10All_any _ _ _ xa0 _ ha0 RA.out v HV.out).mono ?_; rintro e1 w1 ⟨rfl, b1⟩)
  go_ret
  exact ⟨rfl, b1⟩

theorem implC_ValidStages (a0 : Option Addr) (la0 ca0 : Nat) (xa0 : List (List RMill)) (w : World) (ha0 : totSS xa0 ≤ 1048576) (ra0 : Rd_MillSS w w.heap.size a0 la0 xa0) (fa0 : Wf_MillSS xa0) :
    Calls Try.prog 23 #[.slice a0 la0 ca0] w fun e w' => e = .returned (.bool (r0_ValidStages xa0)) ∧ Below w.heap.size w w' := by
  have hln := ra0.1
  exact validStages_any a0 la0 ca0 xa0 w ha0 ra0 _ (by rw [← hln]; rfl)

end Go.Proofs.Ytlkgbemlagfdjaa
