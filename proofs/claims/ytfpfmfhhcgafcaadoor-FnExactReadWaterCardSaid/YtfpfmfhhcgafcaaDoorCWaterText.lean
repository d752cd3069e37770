/- The text of the water of a day. -/
import Derived.Test.YtfpfmfhhcgafcaaDoorWTx
namespace Go.Proofs.YtfpfmfhhcgafcaaDoor
open Go.RowKit

def r0_WaterText (a0_0 : Int) (a0_1 : Int) (a0_2 : Int) (a0_3 : Int) (a0_4 : Int) : ByteArray := if waOk a0_0 a0_1 a0_2 a0_3 a0_4 then wT a0_0 a0_1 a0_2 a0_3 a0_4 else ⟨#[]⟩

set_option maxHeartbeats 800000 in
theorem specC_WaterText (a0_0 : Int) (a0_1 : Int) (a0_2 : Int) (a0_3 : Int) (a0_4 : Int) (w : World) (ha0_0 : (Lit.int .i64 a0_0).wf = true) (ha0_1 : (Lit.int .i64 a0_1).wf = true) (ha0_2 : (Lit.int .i64 a0_2).wf = true) (ha0_3 : (Lit.int .i64 a0_3).wf = true) (ha0_4 : (Lit.int .i64 a0_4).wf = true) :
    Calls Tryd.prog 5 #[.agg #[.int .i64 a0_0, .int .i64 a0_1, .int .i64 a0_2, .int .i64 a0_3, .int .i64 a0_4]] w fun e w' => e = .returned (.string (r0_WaterText a0_0 a0_1 a0_2 a0_3 a0_4)) ∧ Below w.heap.size w w' := by
  by_cases h : waOk a0_0 a0_1 a0_2 a0_3 a0_4
  · rw [show r0_WaterText a0_0 a0_1 a0_2 a0_3 a0_4 = wT a0_0 a0_1 a0_2 a0_3 a0_4 from if_pos h]
    have HV := Lib.hid (show true = decide (waOk a0_0 a0_1 a0_2 a0_3 a0_4) from (decide_eq_true h).symm)
    have HM := Lib.hid h
    obtain ⟨t, ht⟩ : ∃ t, t = wT a0_0 a0_1 a0_2 a0_3 a0_4 := ⟨_, rfl⟩
    rw [← ht]
    have HQ := Lib.hid ht
    clear h ht
    go_enter Tryd.func5, Tryd.ntmps5
    go_wp2_with (first | (go_at_call 11; refine (waS_any _ _ a0_0 a0_1 a0_2 a0_3 a0_4 _ (by simp [AtWater]) true HV.out).mono ?_; rintro ec wc ⟨rfl, rfl⟩) | (go_at_call 12; refine (wtspec _ _ a0_0 a0_1 a0_2 a0_3 a0_4 _ (by simp) (by simp [AtWater]) HM.out t HQ.out).mono ?_; rintro ef wf ⟨rfl, bf⟩))
    go_ret
    exact ⟨rfl, (by repeat (first | assumption | exact Below.refl _ _ | (refine Below.trans ?_ (bf.mono (by first | omega | (simp; done) | (simp; omega)))) | (refine Below.setCell ?_ (by first | omega | (simp; done) | (simp; omega)) _) | apply below_drewN | apply Below.drew | (refine Below.alloc ?_ (by first | omega | (simp; done) | (simp; omega)) _)))⟩
  · rw [show r0_WaterText a0_0 a0_1 a0_2 a0_3 a0_4 = ⟨#[]⟩ from if_neg h]
    have HV := Lib.hid (show false = decide (waOk a0_0 a0_1 a0_2 a0_3 a0_4) from (decide_eq_false h).symm)
    clear h
    go_enter Tryd.func5, Tryd.ntmps5
    go_wp2_with (go_at_call 11; refine (waS_any _ _ a0_0 a0_1 a0_2 a0_3 a0_4 _ (by simp [AtWater]) false HV.out).mono ?_; rintro e0 W0 ⟨rfl, rfl⟩)
    go_ret
    exact ⟨rfl, (by repeat (first | assumption | exact Below.refl _ _ | (refine Below.setCell ?_ (by first | omega | (simp; done) | (simp; omega)) _) | apply below_drewN | apply Below.drew | (refine Below.alloc ?_ (by first | omega | (simp; done) | (simp; omega)) _)))⟩

set_option maxHeartbeats 800000 in
theorem implC_WaterText (a0_0 : Int) (a0_1 : Int) (a0_2 : Int) (a0_3 : Int) (a0_4 : Int) (w : World) (ha0_0 : (Lit.int .i64 a0_0).wf = true) (ha0_1 : (Lit.int .i64 a0_1).wf = true) (ha0_2 : (Lit.int .i64 a0_2).wf = true) (ha0_3 : (Lit.int .i64 a0_3).wf = true) (ha0_4 : (Lit.int .i64 a0_4).wf = true) (hpow : PowTab w) :
    Calls Tryd.prog 7 #[.agg #[.int .i64 a0_0, .int .i64 a0_1, .int .i64 a0_2, .int .i64 a0_3, .int .i64 a0_4]] w fun e w' => e = .returned (.string (r0_WaterText a0_0 a0_1 a0_2 a0_3 a0_4)) ∧ Below w.heap.size w w' := by
  by_cases h : waOk a0_0 a0_1 a0_2 a0_3 a0_4
  · rw [show r0_WaterText a0_0 a0_1 a0_2 a0_3 a0_4 = wT a0_0 a0_1 a0_2 a0_3 a0_4 from if_pos h]
    exact wtimpl a0_0 a0_1 a0_2 a0_3 a0_4 w hpow h _ rfl
  · rw [show r0_WaterText a0_0 a0_1 a0_2 a0_3 a0_4 = ⟨#[]⟩ from if_neg h]
    have HV := Lib.hid (show false = decide (waOk a0_0 a0_1 a0_2 a0_3 a0_4) from (decide_eq_false h).symm)
    clear h
    go_enter Tryd.func7, Tryd.ntmps7
    go_wp2_with (go_at_call 13; refine (waI_any _ _ _ _ _ _ _ HV.out).mono ?_; rintro e0 W0 ⟨rfl, b0⟩)
    go_ret
    exact ⟨rfl, (by repeat (first | assumption | exact Below.refl _ _ | (refine Below.trans ?_ (b0.mono (by first | omega | (simp; done) | (simp; omega)))) | (refine Below.setCell ?_ (by first | omega | (simp; done) | (simp; omega)) _) | apply below_drewN | apply Below.drew | (refine Below.alloc ?_ (by first | omega | (simp; done) | (simp; omega)) _)))⟩


end Go.Proofs.YtfpfmfhhcgafcaaDoor
