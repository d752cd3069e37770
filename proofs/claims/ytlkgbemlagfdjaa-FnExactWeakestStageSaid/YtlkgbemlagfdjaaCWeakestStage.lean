/- The weakest stage. -/
import Derived.Test.YtlkgbemlagfdjaaMilW
namespace Go.Proofs.Ytlkgbemlagfdjaa
open Go.RowKit

def r0_WeakestStage (xa0 : List (List RMill)) (a1 : Int) : Int := if stOk xa0.length xa0 ∧ fcOk a1 then ((biN (smL a1 xa0 xa0.length) (xa0.length - 1) : Nat) : Int) else 0
def r1_WeakestStage (xa0 : List (List RMill)) (a1 : Int) : Int := sc4 (stOk xa0.length xa0) (fcOk a1)

set_option maxHeartbeats 1600000 in
theorem specC_WeakestStage (a0 : Option Addr) (la0 ca0 : Nat) (xa0 : List (List RMill)) (a1 : Int) (w : World) (ha0 : totSS xa0 ≤ 1048576) (ra0 : Rd_MillSS w w.heap.size a0 la0 xa0) (fa0 : Wf_MillSS xa0) (ha1 : (Lit.int .i64 a1).wf = true) :
    Calls Try.prog 35 #[.slice a0 la0 ca0, .int .i64 a1] w fun e w' => e = .returned (.tuple #[.int .i64 (r0_WeakestStage xa0 a1), .int .i64 (r1_WeakestStage xa0 a1)]) ∧ Below w.heap.size w w' := by
  have hln := ra0.1
  have RA := Lib.hid ra0
  clear ra0
  by_cases h : stOk xa0.length xa0 ∧ fcOk a1
  · obtain ⟨L, hL⟩ : ∃ L, L = smL a1 xa0 la0 := ⟨_, rfl⟩
    have hLl : L.length = la0 := by rw [hL, smL_len]
    obtain ⟨q, hq⟩ : ∃ q, q = r0_WeakestStage xa0 a1 := ⟨_, rfl⟩
    have HQ := Lib.hid (show q = ((biN L (la0 - 1) : Nat) : Int) by rw [hq, show r0_WeakestStage xa0 a1 = _ from if_pos h, hln, hL])
    have e1 : r1_WeakestStage xa0 a1 = 0 := sc4_ok h.1 h.2
    rw [← hq, e1]
    have HL := Lib.hid hL
    have HS := Lib.hid (show stOk la0 xa0 by rw [← hln]; exact h.1)
    have HF := Lib.hid h.2
    have HC := Lib.hid (show sc4 (stOk la0 xa0) (fcOk a1) = 0 by rw [← hln]; exact e1)
    have h4 := HS.out.2.2
    have h1 := HS.out.2.1
    clear h e1 hL hLl hq
    go_enter Try.func35, Try.ntmps35
    go_wp2_with (first | (go_at_call 66; refine (l10Code_t _ _ _ xa0 _ _ ha0 RA.out 0 HC.out).mono ?_; rintro e1 w1 ⟨rfl, b1⟩) | (go_at_call 72; refine (l10Weak_t _ la0 _ xa0 _ _ ((RA.out.below b1).mono b1.size) HS.out HF.out L HL.out).mono ?_; rintro e2 w2 ⟨rfl, b2⟩; rw [← HQ.out]))
    go_ret2
    exact ⟨rfl, b1.trans (b2.mono b1.size)⟩
  · have e0 : r0_WeakestStage xa0 a1 = 0 := if_neg h
    have e2 := sc4_ne h
    rw [e0]
    obtain ⟨C, hC⟩ : ∃ C, C = r1_WeakestStage xa0 a1 := ⟨_, rfl⟩
    rw [← hC]
    have e3 : (C != 0) = true := by rw [hC]; exact e2
    have HC := Lib.hid (show sc4 (stOk la0 xa0) (fcOk a1) = C by rw [← hln]; exact hC.symm)
    clear h e0 e2 hC
    go_enter Try.func35, Try.ntmps35
    go_wp2_with (first | (go_at_call 66; refine (l10Code_t _ _ _ xa0 _ _ ha0 RA.out C HC.out).mono ?_; rintro e1 w1 ⟨rfl, b1⟩))
    go_ret2
    exact ⟨rfl, b1⟩

set_option maxHeartbeats 1600000 in
theorem implC_WeakestStage (a0 : Option Addr) (la0 ca0 : Nat) (xa0 : List (List RMill)) (a1 : Int) (w : World) (ha0 : totSS xa0 ≤ 1048576) (ra0 : Rd_MillSS w w.heap.size a0 la0 xa0) (fa0 : Wf_MillSS xa0) (ha1 : (Lit.int .i64 a1).wf = true) :
    Calls Try.prog 36 #[.slice a0 la0 ca0, .int .i64 a1] w fun e w' => e = .returned (.tuple #[.int .i64 (r0_WeakestStage xa0 a1), .int .i64 (r1_WeakestStage xa0 a1)]) ∧ Below w.heap.size w w' := by
  have hln := ra0.1
  have RA := Lib.hid ra0
  have HI := implC_StageRates a0 la0 ca0 xa0 a1 w ha0 ra0 fa0 ha1
  clear ra0
  by_cases h : stOk xa0.length xa0 ∧ fcOk a1
  · obtain ⟨L, hL⟩ : ∃ L, L = smL a1 xa0 la0 := ⟨_, rfl⟩
    have hLl : L.length = la0 := by rw [hL, smL_len]
    obtain ⟨q, hq⟩ : ∃ q, q = r0_WeakestStage xa0 a1 := ⟨_, rfl⟩
    have HQ := Lib.hid (show q = ((biN L (la0 - 1) : Nat) : Int) by rw [hq, show r0_WeakestStage xa0 a1 = _ from if_pos h, hln, hL])
    have e1 : r1_WeakestStage xa0 a1 = 0 := sc4_ok h.1 h.2
    rw [← hq, e1]
    have HL := Lib.hid hL
    have HS := Lib.hid (show stOk la0 xa0 by rw [← hln]; exact h.1)
    have HF := Lib.hid h.2
    have HC := Lib.hid (show sc4 (stOk la0 xa0) (fcOk a1) = 0 by rw [← hln]; exact e1)
    have h4 := HS.out.2.2
    have h1 := HS.out.2.1
    rw [show r0_StageRates xa0 a1 = L by rw [show r0_StageRates xa0 a1 = _ from if_pos h, hln, hL], show r1_StageRates xa0 a1 = 0 from sc4_ok h.1 h.2, hLl] at HI
    have HH := Lib.hid HI
    clear HI
    clear h e1 hL hLl hq
    go_enter Try.func36, Try.ntmps36
    go_wp2_with (first | (go_at_call 28; refine HH.out.mono ?_; rintro e1 w1 ⟨B, d, rfl, b1, x1⟩) | (go_at_call 74; refine (firstLeast_t _ la0 _ L _ (by omega) (by omega) x1.rd).mono ?_; rintro e2 w2 ⟨rfl, rfl⟩; rw [← HQ.out]))
    go_ret2
    exact ⟨rfl, b1⟩
  · have e0 : r0_WeakestStage xa0 a1 = 0 := if_neg h
    have e2 := sc4_ne h
    rw [e0]
    obtain ⟨C, hC⟩ : ∃ C, C = r1_WeakestStage xa0 a1 := ⟨_, rfl⟩
    rw [← hC]
    have e3 : (C != 0) = true := by rw [hC]; exact e2
    have HC := Lib.hid (show sc4 (stOk la0 xa0) (fcOk a1) = C by rw [← hln]; exact hC.symm)
    rw [show r0_StageRates xa0 a1 = [] from if_neg h, show r1_StageRates xa0 a1 = C from hC.symm] at HI
    have HH := Lib.hid HI
    clear HI
    clear h e0 e2 hC
    go_enter Try.func36, Try.ntmps36
    go_wp2_with (first | (go_at_call 28; refine HH.out.mono ?_; rintro e1 w1 ⟨B, d, rfl, b1, x1⟩))
    go_ret2
    exact ⟨rfl, b1⟩


end Go.Proofs.Ytlkgbemlagfdjaa
