/- The wettest window; the heads hold (ka0 : la0 ≤ ca0). -/
import Derived.Test.YthfemghfkfmkdaaDoorCRainSums
import Derived.Test.YthfemghfkfmkdaaDoorMax
namespace Go.Proofs.YthfemghfkfmkdaaDoor
open Go.RowKit

def r0_WettestDays (xa0 : List Int) (a1 : Int) : Int := if rsOk xa0 a1 then (bstN (r0_RainSums xa0 a1) (xa0.length - a1.toNat) : Int) else 0
def r1_WettestDays (xa0 : List Int) (a1 : Int) : Int := if rsOk xa0 a1 then mxN (r0_RainSums xa0 a1) (xa0.length - a1.toNat) else 0
def r2_WettestDays (xa0 : List Int) (a1 : Int) : Int := r1_RainSums xa0 a1
theorem sums_code {xa0 : List Int} {a1 : Int} (h : ¬ rsOk xa0 a1) : r0_RainSums xa0 a1 = [] ∧ (r1_RainSums xa0 a1 != 0) = true := by
  refine ⟨if_neg h, ?_⟩
  unfold r1_RainSums
  by_cases h1 : RainOk xa0.length xa0 ∧ rsP a1
  · rw [if_pos h1, if_neg (fun g => h ⟨h1, g⟩)]; rfl
  · rw [if_neg h1]; exact rcode_ne h1
theorem sums_ok {xa0 : List Int} {a1 : Int} (h : rsOk xa0 a1) : (r0_RainSums xa0 a1).length = xa0.length - a1.toNat + 1 ∧ r1_RainSums xa0 a1 = 0 := by
  refine ⟨by unfold r0_RainSums; rw [if_pos h, rowOf_len], ?_⟩
  unfold r1_RainSums
  rw [if_pos h.1, if_pos h.2]

set_option maxHeartbeats 800000 in
theorem implC_WettestDays (a0 : Option Addr) (la0 ca0 : Nat) (xa0 : List Int) (a1 : Int) (w : World) (ha0 : la0 ≤ 1048576) (ra0 : Rd w w.heap.size a0 la0 xa0) (fa0 : Wf xa0) (ha1 : (Lit.int .i64 a1).wf = true) (ka0 : la0 ≤ ca0) :
    Calls Tryd.prog 8 #[.slice a0 la0 ca0, .int .i64 a1] w fun e w' => e = .returned (.tuple #[.int .i64 (r0_WettestDays xa0 a1), .int .i64 (r1_WettestDays xa0 a1), .int .i64 (r2_WettestDays xa0 a1)]) ∧ Below w.heap.size w w' := by
  have hC := implC_RainSums a0 la0 ca0 xa0 a1 w ha0 ra0 fa0 ha1 ka0
  have HC := Lib.hid hC
  clear hC ra0
  by_cases h : rsOk xa0 a1
  · have e0 : r0_WettestDays xa0 a1 = (bstN (r0_RainSums xa0 a1) (xa0.length - a1.toNat) : Int) := if_pos h
    have e1 : r1_WettestDays xa0 a1 = mxN (r0_RainSums xa0 a1) (xa0.length - a1.toNat) := if_pos h
    obtain ⟨hl, hk⟩ := sums_ok h
    have e2 : r2_WettestDays xa0 a1 = 0 := hk
    rw [e0, e1, e2]
    have h120 := h.1.1.2.2
    rw [hl, hk] at HC
    obtain ⟨m, hm⟩ : ∃ m, m = xa0.length - a1.toNat := ⟨_, rfl⟩
    rw [← hm] at HC hl ⊢
    have hm2 : m ≤ 120 := by omega
    generalize r0_RainSums xa0 a1 = S at *
    have HBA := Lib.hid (bst_all S m)
    clear e0 e1 e2 hk h hm h120
    go_enter Tryd.func8, Tryd.ntmps8
    go_wp2_with (first | (go_at_call 7; refine HC.out.mono ?_; rintro e1 w1 ⟨B, dB, rfl, b1, x1⟩; have D1 := Lib.hid b1; have RX := Lib.hid x1.rd; clear b1 x1) | (go_at_call 18; refine (max_s B (m + 1) dB S _ (by omega) (by omega) RX.out).mono ?_; rintro e2 w2 ⟨rfl, rfl⟩; rw [Nat.add_sub_cancel]) | (go_at_call 19; refine (index_s B (m + 1) dB S _ (bstN S m) _ (by omega) (by have := HBA.out.1; omega) HBA.out.2.1 HBA.out.2.2.1 RX.out).mono ?_; rintro e3 w3 ⟨rfl, rfl⟩))
    go_ret3
    exact ⟨rfl, D1.out⟩
  · have e0 : r0_WettestDays xa0 a1 = 0 := if_neg h
    have e1 : r1_WettestDays xa0 a1 = 0 := if_neg h
    obtain ⟨hl, hk⟩ := sums_code h
    rw [e0, e1, show r2_WettestDays xa0 a1 = r1_RainSums xa0 a1 from rfl]
    clear e0 e1 h
    generalize hr : r1_RainSums xa0 a1 = C at *
    rw [hl] at HC
    clear hr hl
    go_enter Tryd.func8, Tryd.ntmps8
    go_wp2_with (go_at_call 7; refine HC.out.mono ?_; rintro e1 w1 ⟨B, dB, rfl, b1, x1⟩; have D1 := Lib.hid b1; clear b1 x1)
    go_ret3
    exact ⟨rfl, D1.out⟩

end Go.Proofs.YthfemghfkfmkdaaDoor
