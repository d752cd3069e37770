import Derived.Test.YthfemghfkfmkdaaGreatDoorSortI
namespace Go.Proofs.YthfemghfkfmkdaaGreatDoor
open Go.RowKit

def r0_MedianLevel (xa0 : List Int) : Int := if LvOk xa0.length xa0 ∧ 0 < xa0.length then midOf xa0 else 0
def r1_MedianLevel (xa0 : List Int) : Int := if LvOk xa0.length xa0 then (if 0 < xa0.length then 0 else 3) else 2

set_option maxHeartbeats 1600000 in
theorem specC_MedianLevel (a0 : Option Addr) (la0 ca0 : Nat) (xa0 : List Int) (w : World) (ha0 : la0 ≤ 1048576) (ra0 : Rd w w.heap.size a0 la0 xa0) (fa0 : Wf xa0) :
    Calls Tryz.prog 9 #[.slice a0 la0 ca0] w fun e w' => e = .returned (.tuple #[.int .i64 (r0_MedianLevel xa0), .int .i64 (r1_MedianLevel xa0)]) ∧ Below w.heap.size w w' := by
  have hln := ra0.1
  have RA := Lib.hid ra0
  clear ra0
  by_cases hv : LvOk xa0.length xa0
  · have HV := Lib.hid (show LvOk la0 xa0 by rw [← hln]; exact hv)
    by_cases h0 : 0 < la0
    · rw [show r0_MedianLevel xa0 = midOf xa0 from if_pos ⟨hv, by omega⟩, show r1_MedianLevel xa0 = 0 by unfold r1_MedianLevel; rw [if_pos hv, if_pos (by omega)]]
      have HM := Lib.hid (show (srt xa0).getD ((la0 - 1) / 2) 0 = midOf xa0 by unfold midOf; rw [hln])
      have e0 : ((la0 : Int) == 0) = false := by simp; omega
      clear hv
      go_enter Tryz.func9, Tryz.ntmps9
      go_wp2_with (first | (go_at_call 36; refine (l02List_any _ _ _ xa0 _ ha0 RA.out true ⟨fun _ => HV.out, fun _ => rfl⟩).mono ?_; rintro e w' ⟨rfl, rfl⟩; rw [show codeOf true = 0 from rfl]) | (go_at_call 39; refine (l02Middle_t _ _ _ xa0 _ ha0 h0 RA.out).mono ?_; rintro e1 W1 ⟨rfl, b1⟩; rw [HM.out]) | (go_at_call 40; go_in))
      go_ret2
      exact ⟨rfl, b1⟩
    · rw [show r0_MedianLevel xa0 = 0 from if_neg (fun h => h0 (by omega)), show r1_MedianLevel xa0 = 3 by unfold r1_MedianLevel; rw [if_pos hv, if_neg (by omega)]]
      obtain rfl : la0 = 0 := by omega
      clear hv
      go_enter Tryz.func9, Tryz.ntmps9
      go_wp2_with (first | (go_at_call 36; refine (l02List_any _ _ _ xa0 _ ha0 RA.out true ⟨fun _ => HV.out, fun _ => rfl⟩).mono ?_; rintro e w' ⟨rfl, rfl⟩; rw [show codeOf true = 0 from rfl]) | (go_at_call 40; go_in))
      go_ret2
      exact ⟨rfl, Below.refl _ _⟩
  · rw [show r0_MedianLevel xa0 = 0 from if_neg (fun h => hv h.1), show r1_MedianLevel xa0 = 2 from if_neg hv]
    have HV := Lib.hid (show ¬ LvOk la0 xa0 by rw [← hln]; exact hv)
    clear hv
    go_enter Tryz.func9, Tryz.ntmps9
    go_wp2_with (first | (go_at_call 36; refine (l02List_any _ _ _ xa0 _ ha0 RA.out false ⟨fun h => by simp at h, fun h => absurd h HV.out⟩).mono ?_; rintro e w' ⟨rfl, rfl⟩; rw [show codeOf false = 2 from rfl]) | (go_at_call 40; go_in))
    go_ret2
    exact ⟨rfl, Below.refl _ _⟩

set_option maxHeartbeats 1600000 in
theorem implC_MedianLevel (a0 : Option Addr) (la0 ca0 : Nat) (xa0 : List Int) (w : World) (ha0 : la0 ≤ 1048576) (ra0 : Rd w w.heap.size a0 la0 xa0) (fa0 : Wf xa0) :
    Calls Tryz.prog 8 #[.slice a0 la0 ca0] w fun e w' => e = .returned (.tuple #[.int .i64 (r0_MedianLevel xa0), .int .i64 (r1_MedianLevel xa0)]) ∧ Below w.heap.size w w' := by
  have hln := ra0.1
  have RA := Lib.hid ra0
  clear ra0
  by_cases hv : LvOk xa0.length xa0
  · have HV := Lib.hid (show LvOk la0 xa0 by rw [← hln]; exact hv)
    by_cases h0 : 0 < la0
    · rw [show r0_MedianLevel xa0 = midOf xa0 from if_pos ⟨hv, by omega⟩, show r1_MedianLevel xa0 = 0 by unfold r1_MedianLevel; rw [if_pos hv, if_pos (by omega)]]
      have HM := Lib.hid (show (srt xa0).getD ((la0 - 1) / 2) 0 = midOf xa0 by unfold midOf; rw [hln])
      have e0 : ((la0 : Int) == 0) = false := by simp; omega
      clear hv
      go_enter Tryz.func8, Tryz.ntmps8
      go_wp2_with (first | (go_at_call 31; refine (areGauges_any _ _ _ xa0 _ ha0 ((RA.out.below (by repeat (first | assumption | exact Below.refl _ _ | (refine Below.setCell ?_ (by first | omega | (simp; done) | (simp; omega)) _) | apply below_drewN | apply Below.drew | (refine Below.alloc ?_ (by first | omega | (simp; done) | (simp; omega)) _)))).mono (by first | omega | (simp; done) | (simp; omega))) true ⟨fun _ => HV.out, fun _ => rfl⟩).mono ?_; rintro e w' ⟨rfl, rfl⟩) | (go_at_call 33; refine (middleOf_t _ _ _ xa0 _ ha0 h0 ((RA.out.below (by repeat (first | assumption | exact Below.refl _ _ | (refine Below.setCell ?_ (by first | omega | (simp; done) | (simp; omega)) _) | apply below_drewN | apply Below.drew | (refine Below.alloc ?_ (by first | omega | (simp; done) | (simp; omega)) _)))).mono (by first | omega | (simp; done) | (simp; omega)))).mono ?_; rintro e1 W1 ⟨rfl, b1⟩; rw [HM.out]))
      go_ret2
      exact ⟨rfl, (by repeat (first | assumption | exact Below.refl _ _ | (refine Below.trans ?_ (b1.mono (by first | omega | (simp; done) | (simp; omega)))) | (refine Below.setCell ?_ (by first | omega | (simp; done) | (simp; omega)) _) | apply below_drewN | apply Below.drew | (refine Below.alloc ?_ (by first | omega | (simp; done) | (simp; omega)) _)))⟩
    · rw [show r0_MedianLevel xa0 = 0 from if_neg (fun h => h0 (by omega)), show r1_MedianLevel xa0 = 3 by unfold r1_MedianLevel; rw [if_pos hv, if_neg (by omega)]]
      obtain rfl : la0 = 0 := by omega
      clear hv
      go_enter Tryz.func8, Tryz.ntmps8
      go_wp2_with (first | (go_at_call 31; refine (areGauges_any _ _ _ xa0 _ ha0 ((RA.out.below (by repeat (first | assumption | exact Below.refl _ _ | (refine Below.setCell ?_ (by first | omega | (simp; done) | (simp; omega)) _) | apply below_drewN | apply Below.drew | (refine Below.alloc ?_ (by first | omega | (simp; done) | (simp; omega)) _)))).mono (by first | omega | (simp; done) | (simp; omega))) true ⟨fun _ => HV.out, fun _ => rfl⟩).mono ?_; rintro e w' ⟨rfl, rfl⟩))
      go_ret2
      exact ⟨rfl, (by repeat (first | assumption | exact Below.refl _ _ | (refine Below.setCell ?_ (by first | omega | (simp; done) | (simp; omega)) _) | apply below_drewN | apply Below.drew | (refine Below.alloc ?_ (by first | omega | (simp; done) | (simp; omega)) _)))⟩
  · rw [show r0_MedianLevel xa0 = 0 from if_neg (fun h => hv h.1), show r1_MedianLevel xa0 = 2 from if_neg hv]
    have HV := Lib.hid (show ¬ LvOk la0 xa0 by rw [← hln]; exact hv)
    clear hv
    go_enter Tryz.func8, Tryz.ntmps8
    go_wp2_with (first | (go_at_call 31; refine (areGauges_any _ _ _ xa0 _ ha0 ((RA.out.below (by repeat (first | assumption | exact Below.refl _ _ | (refine Below.setCell ?_ (by first | omega | (simp; done) | (simp; omega)) _) | apply below_drewN | apply Below.drew | (refine Below.alloc ?_ (by first | omega | (simp; done) | (simp; omega)) _)))).mono (by first | omega | (simp; done) | (simp; omega))) false ⟨fun h => by simp at h, fun h => absurd h HV.out⟩).mono ?_; rintro e w' ⟨rfl, rfl⟩))
    go_ret2
    exact ⟨rfl, (by repeat (first | assumption | exact Below.refl _ _ | (refine Below.setCell ?_ (by first | omega | (simp; done) | (simp; omega)) _) | apply below_drewN | apply Below.drew | (refine Below.alloc ?_ (by first | omega | (simp; done) | (simp; omega)) _)))⟩

end Go.Proofs.YthfemghfkfmkdaaGreatDoor
