/- What each stage lifts in an hour. -/
import Derived.Test.YtlkgbemlagfdjaaMilG
namespace Go.Proofs.Ytlkgbemlagfdjaa
open Go.RowKit

def r0_StageRates (xa0 : List (List RMill)) (a1 : Int) : List Int := if stOk xa0.length xa0 ∧ fcOk a1 then smL a1 xa0 xa0.length else []
def r1_StageRates (xa0 : List (List RMill)) (a1 : Int) : Int := sc4 (stOk xa0.length xa0) (fcOk a1)
theorem len_r0_StageRates (xa0 : List (List RMill)) (a1 : Int) : (r0_StageRates xa0 a1).length ≤ 1048576 := by
  unfold r0_StageRates
  split
  · rename_i h
    rw [smL_len]
    have := h.1.2.2
    omega
  · simp

set_option maxHeartbeats 1600000 in
theorem specC_StageRates (a0 : Option Addr) (la0 ca0 : Nat) (xa0 : List (List RMill)) (a1 : Int) (w : World) (ha0 : totSS xa0 ≤ 1048576) (ra0 : Rd_MillSS w w.heap.size a0 la0 xa0) (fa0 : Wf_MillSS xa0) (ha1 : (Lit.int .i64 a1).wf = true) :
    Calls Try.prog 27 #[.slice a0 la0 ca0, .int .i64 a1] w fun e w' => ∃ B0 dB0, e = .returned (.tuple #[.slice B0 (r0_StageRates xa0 a1).length dB0, .int .i64 (r1_StageRates xa0 a1)]) ∧ Below w.heap.size w w' ∧ Wr w' w.heap.size B0 (r0_StageRates xa0 a1).length (r0_StageRates xa0 a1) := by
  have hln := ra0.1
  have RA := Lib.hid ra0
  clear ra0
  by_cases h : stOk xa0.length xa0 ∧ fcOk a1
  · obtain ⟨L, hL⟩ : ∃ L, L = smL a1 xa0 la0 := ⟨_, rfl⟩
    have hLl : L.length = la0 := by rw [hL, smL_len]
    have e0 : r0_StageRates xa0 a1 = L := by rw [show r0_StageRates xa0 a1 = _ from if_pos h, hln, hL]
    have e1 : r1_StageRates xa0 a1 = 0 := sc4_ok h.1 h.2
    rw [e0, e1, hLl]
    have HL := Lib.hid hL
    have HS := Lib.hid (show stOk la0 xa0 by rw [← hln]; exact h.1)
    have HF := Lib.hid h.2
    have HC := Lib.hid (show sc4 (stOk la0 xa0) (fcOk a1) = 0 by rw [← hln]; exact e1)
    have h4 := HS.out.2.2
    clear h e0 e1 hL hLl
    go_enter Try.func27, Try.ntmps27
    go_wp2_with (first | (go_at_call 66; refine (l10Code_t _ _ _ xa0 _ _ ha0 RA.out 0 HC.out).mono ?_; rintro e1 w1 ⟨rfl, b1⟩) | (go_at_call 67; refine (l10Sums_t _ la0 _ xa0 _ _ ((RA.out.below b1).mono b1.size) HS.out HF.out L HL.out).mono ?_; rintro e2 w2 ⟨B2, d2, rfl, b2, x2⟩))
    go_ret2
    exact ⟨B2, _, rfl, b1.trans (b2.mono b1.size), x2.lower b1.size⟩
  · have e0 : r0_StageRates xa0 a1 = [] := if_neg h
    have e2 := sc4_ne h
    rw [e0]
    obtain ⟨C, hC⟩ : ∃ C, C = r1_StageRates xa0 a1 := ⟨_, rfl⟩
    rw [← hC]
    have e3 : (C != 0) = true := by rw [hC]; exact e2
    have HC := Lib.hid (show sc4 (stOk la0 xa0) (fcOk a1) = C by rw [← hln]; exact hC.symm)
    clear h e0 e2 hC
    go_enter Try.func27, Try.ntmps27
    go_wp2_with (first | (go_at_call 66; refine (l10Code_t _ _ _ xa0 _ _ ha0 RA.out C HC.out).mono ?_; rintro e1 w1 ⟨rfl, b1⟩))
    go_ret2
    exact ⟨none, 0, rfl, b1, rfl, fun h => absurd h (by simp)⟩

set_option maxHeartbeats 1600000 in
theorem implC_StageRates (a0 : Option Addr) (la0 ca0 : Nat) (xa0 : List (List RMill)) (a1 : Int) (w : World) (ha0 : totSS xa0 ≤ 1048576) (ra0 : Rd_MillSS w w.heap.size a0 la0 xa0) (fa0 : Wf_MillSS xa0) (ha1 : (Lit.int .i64 a1).wf = true) :
    Calls Try.prog 28 #[.slice a0 la0 ca0, .int .i64 a1] w fun e w' => ∃ B0 dB0, e = .returned (.tuple #[.slice B0 (r0_StageRates xa0 a1).length dB0, .int .i64 (r1_StageRates xa0 a1)]) ∧ Below w.heap.size w w' ∧ Wr w' w.heap.size B0 (r0_StageRates xa0 a1).length (r0_StageRates xa0 a1) := by
  have hln := ra0.1
  have RA := Lib.hid ra0
  clear ra0
  by_cases h : stOk xa0.length xa0 ∧ fcOk a1
  · obtain ⟨L, hL⟩ : ∃ L, L = smL a1 xa0 la0 := ⟨_, rfl⟩
    have hLl : L.length = la0 := by rw [hL, smL_len]
    have e0 : r0_StageRates xa0 a1 = L := by rw [show r0_StageRates xa0 a1 = _ from if_pos h, hln, hL]
    have e1 : r1_StageRates xa0 a1 = 0 := sc4_ok h.1 h.2
    rw [e0, e1, hLl]
    have HL := Lib.hid hL
    have HS := Lib.hid (show stOk la0 xa0 by rw [← hln]; exact h.1)
    have HF := Lib.hid h.2
    have HC := Lib.hid (show sc4 (stOk la0 xa0) (fcOk a1) = 0 by rw [← hln]; exact e1)
    have h4 := HS.out.2.2
    clear h e0 e1 hL hLl
    go_enter Try.func28, Try.ntmps28
    go_wp2_with (first | (go_at_call 56; refine (fcI_any _ _ _ rfl).mono ?_; rintro e0 w0 ⟨rfl, rfl⟩) | (go_at_call 68; refine (stagesCode_t _ _ _ xa0 _ (fcOk a1) _ ha0 RA.out rfl 0 HC.out).mono ?_; rintro e1 w1 ⟨rfl, b1⟩) | (go_at_call 70; refine (stagesOf_t _ la0 _ xa0 _ (by omega) ((RA.out.below b1).mono b1.size)).mono ?_; rintro e2 w2 ⟨B2, d2, rfl, b2, x2⟩; have d9 : Below w.heap.size w w2 := b1.trans (b2.mono b1.size)) | (go_at_call 69; refine (ratesS_t _ la0 _ xa0 _ _ x2 HS.out HF.out L HL.out).mono ?_; rintro e3 w3 ⟨B3, d3, rfl, b3, x3⟩))
    go_ret2
    exact ⟨B3, _, rfl, d9.trans (b3.mono d9.size), x3.lower d9.size⟩
  · have e0 : r0_StageRates xa0 a1 = [] := if_neg h
    have e2 := sc4_ne h
    rw [e0]
    obtain ⟨C, hC⟩ : ∃ C, C = r1_StageRates xa0 a1 := ⟨_, rfl⟩
    rw [← hC]
    have e3 : (C != 0) = true := by rw [hC]; exact e2
    have HC := Lib.hid (show sc4 (stOk la0 xa0) (fcOk a1) = C by rw [← hln]; exact hC.symm)
    clear h e0 e2 hC
    go_enter Try.func28, Try.ntmps28
    go_wp2_with (first | (go_at_call 56; refine (fcI_any _ _ _ rfl).mono ?_; rintro e0 w0 ⟨rfl, rfl⟩) | (go_at_call 68; refine (stagesCode_t _ _ _ xa0 _ (fcOk a1) _ ha0 RA.out rfl C HC.out).mono ?_; rintro e1 w1 ⟨rfl, b1⟩))
    go_ret2
    exact ⟨none, 0, rfl, b1, rfl, fun h => absurd h (by simp)⟩


end Go.Proofs.Ytlkgbemlagfdjaa
