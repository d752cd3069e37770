import Derived.Test.YtagnhlcgfcppjaaDikeL
namespace Go.Proofs.Ytagnhlcgfcppjaa
open Go.RowKit

def r0_WeakestSection (xa0 : List RSection) : Int := if DkOk xa0.length xa0 then ((wkF xa0 xa0.length : Nat) : Int) else 0
def r1_WeakestSection (xa0 : List RSection) : Int := dcode xa0.length xa0 True

set_option maxHeartbeats 400000 in
theorem specC_WeakestSection (a0 : Option Addr) (la0 ca0 : Nat) (xa0 : List RSection) (w : World) (ha0 : la0 ≤ 1048576) (ra0 : Rd_Section w w.heap.size a0 la0 xa0) (fa0 : Wf_Section xa0) :
    Calls Try.prog 24 #[.slice a0 la0 ca0] w fun e w' => e = .returned (.tuple #[.int .i64 (r0_WeakestSection xa0), .int .i64 (r1_WeakestSection xa0)]) ∧ Below w.heap.size w w' := by
  have hln := ra0.len
  have RA := Lib.hid ra0
  clear ra0
  by_cases h : DkOk la0 xa0
  · have e0 : r0_WeakestSection xa0 = ((wkF xa0 la0 : Nat) : Int) := by unfold r0_WeakestSection; rw [hln, if_pos h]
    have e1 : r1_WeakestSection xa0 = 0 := by unfold r1_WeakestSection; rw [hln]; exact dcode_ok h trivial
    rw [e0, e1]
    have HV := Lib.hid h
    have h1 := h.2.1
    clear e0 e1 h
    go_enter Try.func24, Try.ntmps24
    go_wp2_with (first | (go_at_call 50; refine (l07Ok_any _ _ _ xa0 _ ha0 RA.out true ⟨fun _ => HV.out, fun _ => rfl⟩).mono ?_; rintro eo wo ⟨rfl, rfl⟩) | (go_at_call 61; refine (weakestS_t _ _ _ xa0 _ ha0 h1 RA.out).mono ?_; rintro e3 W3 ⟨rfl, b3⟩))
    go_ret2
    exact ⟨rfl, (by repeat (first | assumption | exact Below.refl _ _ | (refine Below.trans ?_ (b3.mono (by first | omega | (simp; done) | (simp; omega)))) | (refine Below.setCell ?_ (by first | omega | (simp; done) | (simp; omega)) _) | apply below_drewN | apply Below.drew | (refine Below.alloc ?_ (by first | omega | (simp; done) | (simp; omega)) _)))⟩
  · have e0 : r0_WeakestSection xa0 = 0 := by unfold r0_WeakestSection; rw [hln, if_neg h]
    have e1 : r1_WeakestSection xa0 = 1 := by unfold r1_WeakestSection; rw [hln]; exact dcode_bad h
    rw [e0, e1]
    have HV := Lib.hid h
    clear e0 e1 h
    go_enter Try.func24, Try.ntmps24
    go_wp2_with (first | (go_at_call 50; refine (l07Ok_any _ _ _ xa0 _ ha0 RA.out false ⟨fun h => by simp at h, fun h => absurd h HV.out⟩).mono ?_; rintro eo wo ⟨rfl, rfl⟩))
    go_ret2
    exact ⟨rfl, Below.refl _ _⟩

set_option maxHeartbeats 400000 in
theorem implC_WeakestSection (a0 : Option Addr) (la0 ca0 : Nat) (xa0 : List RSection) (w : World) (ha0 : la0 ≤ 1048576) (ra0 : Rd_Section w w.heap.size a0 la0 xa0) (fa0 : Wf_Section xa0) :
    Calls Try.prog 25 #[.slice a0 la0 ca0] w fun e w' => e = .returned (.tuple #[.int .i64 (r0_WeakestSection xa0), .int .i64 (r1_WeakestSection xa0)]) ∧ Below w.heap.size w w' := by
  have hln := ra0.len
  have RA := Lib.hid ra0
  clear ra0
  by_cases h : DkOk la0 xa0
  · have e0 : r0_WeakestSection xa0 = ((wkF xa0 la0 : Nat) : Int) := by unfold r0_WeakestSection; rw [hln, if_pos h]
    have e1 : r1_WeakestSection xa0 = 0 := by unfold r1_WeakestSection; rw [hln]; exact dcode_ok h trivial
    rw [e0, e1]
    have HV := Lib.hid h
    have HC := Lib.hid (dcode_ok (P := True) h trivial)
    have h1 := h.2.1
    
    clear e0 e1 h
    go_enter Try.func25, Try.ntmps25
    go_wp2_with (first | (go_at_call 57; refine (dikeCode_t _ _ _ xa0 _ (True) _ ha0 ((RA.out.below (by repeat (first | assumption | exact Below.refl _ _ | (refine Below.setCell ?_ (by first | omega | (simp; done) | (simp; omega)) _) | apply below_drewN | apply Below.drew | (refine Below.alloc ?_ (by first | omega | (simp; done) | (simp; omega)) _)))).mono (by first | omega | (simp; done) | (simp; omega))) (fun _ => rfl) _ HC.out).mono ?_; rintro ed W2 ⟨rfl, b2⟩; have s2 : w.heap.size ≤ W2.heap.size := (by have := b2.size; (try simp at this); omega); have d2 : Below w.heap.size w W2 := (by repeat (first | assumption | exact Below.refl _ _ | (refine Below.trans ?_ (b2.mono (by first | omega | (simp; done) | (simp; omega)))) | (refine Below.setCell ?_ (by first | omega | (simp; done) | (simp; omega)) _) | apply below_drewN | apply Below.drew | (refine Below.alloc ?_ (by first | omega | (simp; done) | (simp; omega)) _)))) | (go_at_call 62; refine (weakestI_t _ _ _ xa0 _ ha0 h1 ((RA.out.below d2).mono (by first | omega | (simp; done) | (simp; omega)))).mono ?_; rintro e3 W3 ⟨rfl, b3⟩))
    go_ret2
    exact ⟨rfl, (by repeat (first | assumption | exact Below.refl _ _ | (refine Below.trans ?_ (b3.mono (by first | omega | (simp; done) | (simp; omega)))) | (refine Below.trans ?_ (b2.mono (by first | omega | (simp; done) | (simp; omega)))) | (refine Below.setCell ?_ (by first | omega | (simp; done) | (simp; omega)) _) | apply below_drewN | apply Below.drew | (refine Below.alloc ?_ (by first | omega | (simp; done) | (simp; omega)) _)))⟩
  · have e0 : r0_WeakestSection xa0 = 0 := by unfold r0_WeakestSection; rw [hln, if_neg h]
    have e1 : r1_WeakestSection xa0 = 1 := by unfold r1_WeakestSection; rw [hln]; exact dcode_bad h
    rw [e0, e1]
    have HC := Lib.hid (dcode_bad (P := True) h)
    clear e0 e1 h
    go_enter Try.func25, Try.ntmps25
    go_wp2_with (first | (go_at_call 57; refine (dikeCode_t _ _ _ xa0 _ (True) _ ha0 ((RA.out.below (by repeat (first | assumption | exact Below.refl _ _ | (refine Below.setCell ?_ (by first | omega | (simp; done) | (simp; omega)) _) | apply below_drewN | apply Below.drew | (refine Below.alloc ?_ (by first | omega | (simp; done) | (simp; omega)) _)))).mono (by first | omega | (simp; done) | (simp; omega))) (fun _ => by simp) _ HC.out).mono ?_; rintro ed W2 ⟨rfl, b2⟩; have s2 : w.heap.size ≤ W2.heap.size := (by have := b2.size; (try simp at this); omega); have d2 : Below w.heap.size w W2 := (by repeat (first | assumption | exact Below.refl _ _ | (refine Below.trans ?_ (b2.mono (by first | omega | (simp; done) | (simp; omega)))) | (refine Below.setCell ?_ (by first | omega | (simp; done) | (simp; omega)) _) | apply below_drewN | apply Below.drew | (refine Below.alloc ?_ (by first | omega | (simp; done) | (simp; omega)) _)))))
    go_ret2
    exact ⟨rfl, (by repeat (first | assumption | exact Below.refl _ _ | (refine Below.trans ?_ (b2.mono (by first | omega | (simp; done) | (simp; omega)))) | (refine Below.setCell ?_ (by first | omega | (simp; done) | (simp; omega)) _) | apply below_drewN | apply Below.drew | (refine Below.alloc ?_ (by first | omega | (simp; done) | (simp; omega)) _)))⟩

end Go.Proofs.Ytagnhlcgfcppjaa
