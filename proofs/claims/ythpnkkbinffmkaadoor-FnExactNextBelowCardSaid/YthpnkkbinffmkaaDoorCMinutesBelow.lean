import Derived.Test.YthpnkkbinffmkaaDoorCSpellsBelow
namespace Go.Proofs.YthpnkkbinffmkaaDoor
open Go.RowKit

/- caps: (ka0 : la0 ≤ ca0) -/

def r0_MinutesBelow (xa0 : List RTide) (a1 : Int) : Int := if TdOk xa0.length xa0 ∧ lvok a1 then spSum (spN xa0 a1 (xa0.length - 1)) (spN xa0 a1 (xa0.length - 1)).length else 0
def r1_MinutesBelow (xa0 : List RTide) (a1 : Int) : Int := tcode xa0.length xa0 (lvok a1)

set_option maxHeartbeats 1600000 in
theorem implC_MinutesBelow (a0 : Option Addr) (la0 ca0 : Nat) (xa0 : List RTide) (a1 : Int) (w : World) (ha0 : la0 ≤ 1048576) (ra0 : Rd_Tide w w.heap.size a0 la0 xa0) (fa0 : Wf_Tide xa0) (ha1 : (Lit.int .i64 a1).wf = true) (ka0 : la0 ≤ ca0) :
    Calls Tryd.prog 22 #[.slice a0 la0 ca0, .int .i64 a1] w fun e w' => e = .returned (.tuple #[.int .i64 (r0_MinutesBelow xa0 a1), .int .i64 (r1_MinutesBelow xa0 a1)]) ∧ Below w.heap.size w w' := by
  have hln := ra0.len
  have RA := Lib.hid ra0
  have HF := Lib.hid fa0
  have HA1 := Lib.hid ha1
  clear ra0 fa0 ha1
  by_cases h : TdOk la0 xa0 ∧ lvok a1
  · obtain ⟨N, hN⟩ : ∃ N, N = la0 - 1 := ⟨_, rfl⟩
    have e0 : r0_MinutesBelow xa0 a1 = spSum (spN xa0 a1 N) (spN xa0 a1 N).length := by unfold r0_MinutesBelow; rw [hln, if_pos h, hN]
    have e1 : r1_MinutesBelow xa0 a1 = 0 := by unfold r1_MinutesBelow; rw [hln]; exact tcode_ok h.1 h.2
    rw [e0, e1]
    have HR0 := Lib.hid (show r0_SpellsBelow xa0 a1 = spN xa0 a1 N by unfold r0_SpellsBelow; rw [hln, if_pos h, hN])
    have HR1 := Lib.hid (show r1_SpellsBelow xa0 a1 = 0 by unfold r1_SpellsBelow; rw [hln]; exact tcode_ok h.1 h.2)
    have HC := Lib.hid (tcode_ok h.1 h.2)
    have HV := Lib.hid h.1
    have HY := Lib.hid h.2
    have hN1 : N + 1 = la0 := by have := h.1.2.1; omega
    have HIN := Lib.hid (sp_in h.1 a1 N (by omega))
    have HLEN := Lib.hid (show (spN xa0 a1 N).length ≤ 40 by have := spN_len xa0 a1 N; have := h.1.2.2; omega)
    clear e0 e1 h hN
    generalize hL : (spN xa0 a1 N) = L at *
    have HL := Lib.hid hL
    clear hL
    have HBD := Lib.hid (fun k hk => spSum_bd (L := L) HIN.out k hk)
    have hll : L.length ≤ 40 := HLEN.out
    go_enter Tryd.func22, Tryd.ntmps22
    go_wp2_with (first | (go_at_call 21; refine (implC_SpellsBelow _ _ _ xa0 _ _ ha0 RA.out HF.out HA1.out ka0).mono ?_; rintro e3 W3 ⟨B, d, rfl, d3, hw⟩; rw [HR0.out, HR1.out]; rw [HR0.out] at hw; have HRW := Lib.hid hw.rd; have s3 := d3.size; clear hw))
    go_loopw [8, 10, 19] (fun s _ i wr => ∃ k : Nat, k ≤ L.length ∧ i = .int .i64 (k : Int) ∧ s = .int .i64 (spSum L k) ∧ Below W3.heap.size W3 wr) (fun _ _ i _ => L.length - (intOf i).toNat)
    case atStart => exact ⟨0, by omega, rfl, rfl, Below.refl _ _⟩
    case round =>
      obtain ⟨k, hk, rfl, rfl, hb⟩ := hrel
      have hsz := hb.size
      obtain ⟨u1, u2⟩ := HBD.out k hk
      by_cases hlt : k < L.length
      · obtain ⟨sb, so, rfl, hsb, hc⟩ := (HRW.out.below hb).at (by omega)
        have p := hc k hlt
        have hi := HIN.out k hlt
        have HS := Lib.hid (show spSum L (k + 1) = spSum L k + ((L.getD k zSpell).f1 - (L.getD k zSpell).f0 + 1) from rfl)
        clear hc
        obtain ⟨x, hx⟩ : ∃ x, x = L.getD k zSpell := ⟨_, rfl⟩
        rw [← hx] at p hi HS
        clear hx
        obtain ⟨z0, z1⟩ := x
        obtain ⟨p0, p1⟩ := p
        obtain ⟨i0, i1, i2⟩ := hi
        simp only at p0 p1 i0 i1 i2 HS
        have hsw : sb < wr.heap.size := by omega
        have ne1 : ¬ sb = wr.heap.size := by omega
        generalize spSum L k = s at *
        go_wp2
        go_roundw
        case rel => exact ⟨k + 1, by omega, by go_num, by rw [HS.out], (by repeat (first | assumption | exact Below.refl _ _ | (refine Below.setCell ?_ (by first | omega | (simp; done) | (simp; omega)) _) | apply below_drewN | apply Below.drew | (refine Below.alloc ?_ (by first | omega | (simp; done) | (simp; omega)) _)))⟩
        case measure => simp [intOf]; omega
      · obtain rfl : k = L.length := by omega
        go_wp2
        go_ret2
        exact ⟨rfl, d3.trans (hb.mono (by omega))⟩
  · have e0 : r0_MinutesBelow xa0 a1 = 0 := by unfold r0_MinutesBelow; rw [hln, if_neg h]
    have e1 : r1_MinutesBelow xa0 a1 = tcode la0 xa0 (lvok a1) := by unfold r1_MinutesBelow; rw [hln]
    rw [e0, e1]
    have e3 := tcode_ne h
    have HR0 := Lib.hid (show r0_SpellsBelow xa0 a1 = [] by unfold r0_SpellsBelow; rw [hln, if_neg h])
    have HR1 := Lib.hid (show r1_SpellsBelow xa0 a1 = tcode la0 xa0 (lvok a1) by unfold r1_SpellsBelow; rw [hln])
    obtain ⟨C, hC⟩ : ∃ C, tcode la0 xa0 (lvok a1) = C := ⟨_, rfl⟩
    rw [hC] at e3 HR1 ⊢
    have HC := Lib.hid hC
    clear e0 e1 h hC
    go_enter Tryd.func22, Tryd.ntmps22
    go_wp2_with (first | (go_at_call 21; refine (implC_SpellsBelow _ _ _ xa0 _ _ ha0 RA.out HF.out HA1.out ka0).mono ?_; rintro e3 W3 ⟨B, d, rfl, d3, hw⟩; rw [HR0.out, HR1.out]; rw [HR0.out] at hw; have HRW := Lib.hid hw.rd; have s3 := d3.size; clear hw))
    go_loopw [8, 10, 19] (fun s _ i wr => i = .int .i64 0 ∧ s = .int .i64 0 ∧ Below W3.heap.size W3 wr) (fun _ _ _ _ => 0)
    case atStart => exact ⟨rfl, rfl, Below.refl _ _⟩
    case round =>
      obtain ⟨rfl, rfl, hb⟩ := hrel
      go_wp2
      go_ret2
      exact ⟨rfl, d3.trans (hb.mono (by omega))⟩

end Go.Proofs.YthpnkkbinffmkaaDoor
