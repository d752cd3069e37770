import Derived.Test.YthpnkkbinffmkaaDoorTideK
namespace Go.Proofs.YthpnkkbinffmkaaDoor
open Go.RowKit

/- caps: (ka0 : la0 ≤ ca0) -/

def r0_SpellsBelow (xa0 : List RTide) (a1 : Int) : List RSpell := if TdOk xa0.length xa0 ∧ lvok a1 then spN xa0 a1 (xa0.length - 1) else []
def r1_SpellsBelow (xa0 : List RTide) (a1 : Int) : Int := tcode xa0.length xa0 (lvok a1)
theorem len_r0_SpellsBelow (xa0 : List RTide) (a1 : Int) : (r0_SpellsBelow xa0 a1).length ≤ 1048576 := by
  unfold r0_SpellsBelow
  split
  · rename_i h
    have := h.1.2.2
    have := spN_len xa0 a1 (xa0.length - 1)
    omega
  · simp

set_option maxHeartbeats 1600000 in
theorem implC_SpellsBelow (a0 : Option Addr) (la0 ca0 : Nat) (xa0 : List RTide) (a1 : Int) (w : World) (ha0 : la0 ≤ 1048576) (ra0 : Rd_Tide w w.heap.size a0 la0 xa0) (fa0 : Wf_Tide xa0) (ha1 : (Lit.int .i64 a1).wf = true) (ka0 : la0 ≤ ca0) :
    Calls Tryd.prog 21 #[.slice a0 la0 ca0, .int .i64 a1] w fun e w' => ∃ B0 dB0, e = .returned (.tuple #[.slice B0 (r0_SpellsBelow xa0 a1).length dB0, .int .i64 (r1_SpellsBelow xa0 a1)]) ∧ Below w.heap.size w w' ∧ Wr_Spell w' w.heap.size B0 (r0_SpellsBelow xa0 a1).length (r0_SpellsBelow xa0 a1) := by
  have hln := ra0.len
  have RA := Lib.hid ra0
  clear ra0 fa0
  by_cases h : TdOk la0 xa0 ∧ lvok a1
  · have e0 : r0_SpellsBelow xa0 a1 = spN xa0 a1 (la0 - 1) := by unfold r0_SpellsBelow; rw [hln, if_pos h]
    have e1 : r1_SpellsBelow xa0 a1 = 0 := by unfold r1_SpellsBelow; rw [hln]; exact tcode_ok h.1 h.2
    rw [e0, e1]
    have HC := Lib.hid (tcode_ok h.1 h.2)
    have HV := Lib.hid h.1
    have HY := Lib.hid h.2
    obtain ⟨N, hN⟩ : ∃ N, N = la0 - 1 := ⟨_, rfl⟩
    have hN1 : N + 1 = la0 := by have := h.1.2.1; omega
    rw [← hN]
    clear e0 e1 h hN
    generalize hL : (spN xa0 a1 N) = L at *
    have HL := Lib.hid hL
    clear hL
    go_enter Tryd.func21, Tryd.ntmps21
    go_wp2_with (first | (go_at_call 30; refine (lvI_any _ _).mono ?_; rintro el wl ⟨rfl, rfl⟩) | (go_at_call 29; refine (tidesCode_t _ _ _ xa0 _ (lvok a1) _ ha0 ka0 RA.out (fun _ => rfl) _ HC.out).mono ?_; rintro ed W2 ⟨rfl, b2⟩; have s2 := b2.size) | (go_at_call 45; refine (spellsBelow_t _ _ _ xa0 _ _ ha0 (RA.out.below' b2) HV.out HY.out N hN1).mono ?_; rintro e3 W3 ⟨B, d, rfl, b3, hw⟩; rw [HL.out] at hw ⊢; have HW := Lib.hid (hw.lower s2); clear hw))
    go_ret2
    exact ⟨B, d, rfl, b2.trans (b3.mono s2), HW.out⟩
  · have e0 : r0_SpellsBelow xa0 a1 = [] := by unfold r0_SpellsBelow; rw [hln, if_neg h]
    have e1 : r1_SpellsBelow xa0 a1 = tcode la0 xa0 (lvok a1) := by unfold r1_SpellsBelow; rw [hln]
    rw [e0, e1]
    have e3 := tcode_ne h
    obtain ⟨C, hC⟩ : ∃ C, tcode la0 xa0 (lvok a1) = C := ⟨_, rfl⟩
    rw [hC] at e3 ⊢
    have HC := Lib.hid hC
    clear e0 e1 h hC
    go_enter Tryd.func21, Tryd.ntmps21
    go_wp2_with (first | (go_at_call 30; refine (lvI_any _ _).mono ?_; rintro el wl ⟨rfl, rfl⟩) | (go_at_call 29; refine (tidesCode_t _ _ _ xa0 _ (lvok a1) _ ha0 ka0 RA.out (fun _ => rfl) _ HC.out).mono ?_; rintro ed W2 ⟨rfl, b2⟩; have s2 := b2.size))
    go_ret2
    exact ⟨none, 0, rfl, b2, rfl, fun h => absurd h (by simp)⟩

end Go.Proofs.YthpnkkbinffmkaaDoor
