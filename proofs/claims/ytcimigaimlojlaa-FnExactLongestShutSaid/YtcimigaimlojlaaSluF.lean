/- Sluices: how much water goes out: of the model and of the program. -/
import Derived.Test.YtcimigaimlojlaaSluC
import Derived.Test.YtcimigaimlojlaaAw
import Derived.BigQuiet
namespace Go.Proofs.Ytcimigaimlojlaa
open Go.RowKit

set_option maxHeartbeats 1600000 in
theorem flowI_t (wd sl i o : Int) (w : World) (hs : slOk wd sl) (hi : slv i) (ho : slv o) (q : Int) (hq : q = flN wd sl i o) :
    Calls Try.prog 43 #[.agg #[.int .i64 wd, .int .i64 sl], .agg #[.int .i64 i, .int .i64 o]] w fun e w' => e = .returned (.int .i64 q) ∧ Below w.heap.size w w' := by
  obtain ⟨p1, p2⟩ := wdN_bd hs hi ho
  obtain ⟨u1, u2⟩ := hdN_bd hi ho hs.2
  obtain ⟨hs1, hs2⟩ := hs
  unfold slv at hi ho hs2
  have hE : flN wd sl i o = wd * hdN sl i o / 10 := rfl
  rw [hE] at hq
  have hH : hdN sl i o = max 0 (i - max o sl) := rfl
  obtain ⟨h, hh⟩ : ∃ h, h = hdN sl i o := ⟨_, rfl⟩
  rw [← hh] at hH p1 p2 u1 u2 hq
  have f2 := IntWalk.i64_in (wd * h) (by omega)
  have HQ := Lib.hid hq
  clear hE hh hq
  by_cases c1 : o < sl
  · have f1 := IntWalk.i64_in (i - sl) (by omega)
    by_cases c2 : 0 < i - sl
    · obtain rfl : h = i - sl := by omega
      clear hH
      go_enter Try.func43, Try.ntmps43
      go_wp2
      go_ret
      exact ⟨ret_int (by rw [HQ.out]), (by repeat (first | assumption | exact Below.refl _ _ | (refine Below.setCell ?_ (by first | omega | (simp; done) | (simp; omega)) _) | apply below_drewN | apply Below.drew | (refine Below.alloc ?_ (by first | omega | (simp; done) | (simp; omega)) _)))⟩
    · obtain rfl : h = 0 := by omega
      clear hH
      go_enter Try.func43, Try.ntmps43
      go_wp2
      go_ret
      exact ⟨ret_int (by rw [HQ.out]; simp), (by repeat (first | assumption | exact Below.refl _ _ | (refine Below.setCell ?_ (by first | omega | (simp; done) | (simp; omega)) _) | apply below_drewN | apply Below.drew | (refine Below.alloc ?_ (by first | omega | (simp; done) | (simp; omega)) _)))⟩
  · have f1 := IntWalk.i64_in (i - o) (by omega)
    have c1' : sl ≤ o := by omega
    clear c1
    by_cases c2 : 0 < i - o
    · obtain rfl : h = i - o := by omega
      clear hH
      go_enter Try.func43, Try.ntmps43
      go_wp2
      go_ret
      exact ⟨ret_int (by rw [HQ.out]), (by repeat (first | assumption | exact Below.refl _ _ | (refine Below.setCell ?_ (by first | omega | (simp; done) | (simp; omega)) _) | apply below_drewN | apply Below.drew | (refine Below.alloc ?_ (by first | omega | (simp; done) | (simp; omega)) _)))⟩
    · obtain rfl : h = 0 := by omega
      clear hH
      go_enter Try.func43, Try.ntmps43
      go_wp2
      go_ret
      exact ⟨ret_int (by rw [HQ.out]; simp), (by repeat (first | assumption | exact Below.refl _ _ | (refine Below.setCell ?_ (by first | omega | (simp; done) | (simp; omega)) _) | apply below_drewN | apply Below.drew | (refine Below.alloc ?_ (by first | omega | (simp; done) | (simp; omega)) _)))⟩

set_option maxHeartbeats 1600000 in
theorem flowS_t (wd sl i o : Int) (w : World) (hs : slOk wd sl) (hi : slv i) (ho : slv o) (q : Int) (hq : q = flN wd sl i o) :
    Calls Try.prog 39 #[.agg #[.int .i64 wd, .int .i64 sl], .int .i64 i, .int .i64 o] w fun e w' => e = .returned (.int .i64 q) ∧ Below w.heap.size w w' := by
  obtain ⟨p1, p2⟩ := wdN_bd hs hi ho
  obtain ⟨u1, u2⟩ := hdN_bd hi ho hs.2
  obtain ⟨hs1, hs2⟩ := hs
  unfold slv at hi ho hs2
  have hE : flN wd sl i o = wd * hdN sl i o / 10 := rfl
  rw [hE] at hq
  have hH : hdN sl i o = max 0 (i - max o sl) := rfl
  obtain ⟨h, hh⟩ : ∃ h, h = hdN sl i o := ⟨_, rfl⟩
  rw [← hh] at hH p1 p2 u1 u2 hq
  obtain ⟨m, hm⟩ : ∃ m, m = max o sl := ⟨_, rfl⟩
  have f0 := IntWalk.i64_in (i - m) (by omega)
  have f2 := IntWalk.i64_in (wd * h) (by omega)
  rw [← hm] at hH
  have HQ := Lib.hid hq
  have HM := Lib.hid hm.symm
  have HH := Lib.hid hH.symm
  clear hE hh hq hm hH
  go_enter Try.func39, Try.ntmps39
  go_wp2
  go_quiet ((go_at_call 57; first | exact Calls.quiet_of_same ((max_t _ _ _).mono fun _ _ h => ⟨h.1.trans (by rw [HM.out]), h.2.symm⟩) | exact Calls.quiet_of_same ((max_t _ _ _).mono fun _ _ h => ⟨h.1.trans (by rw [HH.out]), h.2.symm⟩)))
  go_wp2
  go_ret
  exact ⟨ret_int (by rw [HQ.out]), (by repeat (first | assumption | exact Below.refl _ _ | (refine Below.setCell ?_ (by first | omega | (simp; done) | (simp; omega)) _) | apply below_drewN | apply Below.drew | (refine Below.alloc ?_ (by first | omega | (simp; done) | (simp; omega)) _)))⟩

end Go.Proofs.Ytcimigaimlojlaa
