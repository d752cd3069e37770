import Derived.Test.YtfpfmfhhcgafcaaWatT
import Derived.Test.YtfpfmfhhcgafcaaOut
namespace Go.Proofs.Ytfpfmfhhcgafcaa
open Go.RowKit

def r0_ClosingError (a0 a1 : Int) (xa2 : List RWater) : Int := if waList xa2.length xa2 ∧ volOk a0 ∧ volOk a1 then a1 - a0 - netW (sumW xa2 xa2.length) else 0
def r1_ClosingError (a0 a1 : Int) (xa2 : List RWater) : Int := wcode xa2.length xa2 (volOk a0 ∧ volOk a1)
theorem wcode_st {n : Nat} {xs : List RWater} {P Q : Prop} [Decidable P] [Decidable Q] (h : waList n xs ∧ P) (q : ¬ Q) : wcode n xs (P ∧ Q) = 2 := wcode_rg h.1.1 (fun g => q g.2.2)

set_option maxHeartbeats 1600000 in
theorem specC_ClosingError (a0 : Int) (a1 : Int) (a2 : Option Addr) (la2 ca2 : Nat) (xa2 : List RWater) (w : World) (ha0 : (Lit.int .i64 a0).wf = true) (ha1 : (Lit.int .i64 a1).wf = true) (ha2 : la2 ≤ 1048576) (ra2 : Rd_Water w w.heap.size a2 la2 xa2) (fa2 : Wf_Water xa2) :
    Calls Try.prog 32 #[.int .i64 a0, .int .i64 a1, .slice a2 la2 ca2] w fun e w' => e = .returned (.tuple #[.int .i64 (r0_ClosingError a0 a1 xa2), .int .i64 (r1_ClosingError a0 a1 xa2)]) ∧ Below w.heap.size w w' := by
  have hln := ra2.len
  have RA := Lib.hid ra2
  clear ra2
  by_cases h1 : waList la2 xa2 ∧ volOk a0
  · have HC := Lib.hid (wcode_ok (P := volOk a0) h1.1 h1.2)
    by_cases h2 : 0 ≤ a1 ∧ a1 ≤ 1000000000
    · have h : waList la2 xa2 ∧ volOk a0 ∧ volOk a1 := ⟨h1.1, h1.2, h2⟩
      have e0 : r0_ClosingError a0 a1 xa2 = a1 - a0 - netW (sumW xa2 la2) := by unfold r0_ClosingError; rw [hln, if_pos h]
      have e1 : r1_ClosingError a0 a1 xa2 = 0 := by unfold r1_ClosingError; rw [hln]; exact wcode_ok h.1 h.2
      rw [e0, e1]
      have HV := Lib.hid h1.1
      obtain ⟨v1, v2⟩ := h1.2
      obtain ⟨v3, v4⟩ := h2
      obtain ⟨t, ht⟩ : ∃ t, t = sumW xa2 la2 := ⟨_, rfl⟩
      rw [← ht]
      obtain ⟨t0, t1, t2, t3, t4⟩ := t
      have HT := Lib.hid ht
      have HB := Lib.hid (show -10000000000 ≤ t0 ∧ t0 ≤ 10000000000 ∧ -10000000000 ≤ t1 ∧ t1 ≤ 10000000000 ∧ -10000000000 ≤ t2 ∧ t2 ≤ 10000000000 ∧ -10000000000 ≤ t3 ∧ t3 ≤ 10000000000 ∧ -10000000000 ≤ t4 ∧ t4 ≤ 10000000000 by
        have := sum_small h1.1.1 h1.1.2 la2 (Nat.le_refl _) ht
        omega)
      obtain ⟨m, hm⟩ : ∃ m, m = netW ⟨t0, t1, t2, t3, t4⟩ := ⟨_, rfl⟩
      have HM := Lib.hid hm
      rw [← hm]
      have hmb : -60000000000 ≤ m ∧ m ≤ 60000000000 := by
        have := HB.out
        rw [hm]
        show -60000000000 ≤ t0 + t1 - t2 - t3 - t4 ∧ t0 + t1 - t2 - t3 - t4 ≤ 60000000000
        omega
      obtain ⟨m1, m2⟩ := hmb
      clear e0 e1 h h1 ht hm
      go_enter Try.func32, Try.ntmps32
      go_wp2_with (first | (go_at_call 52; refine (l13Start_t a0 _ _ _ xa2 _ ha2 ((RA.out.below (by repeat (first | assumption | exact Below.refl _ _ | (refine Below.setCell ?_ (by first | omega | (simp; done) | (simp; omega)) _) | apply below_drewN | apply Below.drew | (refine Below.alloc ?_ (by first | omega | (simp; done) | (simp; omega)) _)))).mono (by first | omega | (simp; done) | (simp; omega))) 0 HC.out).mono ?_; rintro e1 w1 ⟨rfl, rfl⟩) | (go_at_call 57; first | (refine (in_t _ _ _ _ (by omega)).mono ?_; rintro e w' ⟨rfl, rfl⟩) | (refine (in_f _ _ _ _ (by omega)).mono ?_; rintro e w' ⟨rfl, rfl⟩)) | (go_at_call 49; refine (sumS_t _ _ _ xa2 _ ha2 RA.out HV.out t0 t1 t2 t3 t4 HT.out).mono ?_; rintro e2 W2 ⟨rfl, b2⟩; have q2 := b2.size) | (go_at_call 46; refine (netS_t _ _ t0 t1 t2 t3 t4 _ (by simp [AtWater]) HB.out m HM.out).mono ?_; rintro e3 W3 ⟨rfl, b3⟩))
      go_ret2
      exact ⟨rfl, (by repeat (first | assumption | exact Below.refl _ _ | (refine Below.trans ?_ (b3.mono (by first | omega | (simp; done) | (simp; omega)))) | (refine Below.trans ?_ (b2.mono (by first | omega | (simp; done) | (simp; omega)))) | (refine Below.setCell ?_ (by first | omega | (simp; done) | (simp; omega)) _) | apply below_drewN | apply Below.drew | (refine Below.alloc ?_ (by first | omega | (simp; done) | (simp; omega)) _)))⟩
    · have e0 : r0_ClosingError a0 a1 xa2 = 0 := by unfold r0_ClosingError; rw [hln, if_neg (fun g => h2 g.2.2)]
      have e1 : r1_ClosingError a0 a1 xa2 = 2 := by unfold r1_ClosingError; rw [hln]; exact wcode_st h1 h2
      rw [e0, e1]
      have h' : a1 < 0 ∨ 1000000000 < a1 := by omega
      clear e0 e1 h1 h2
      go_enter Try.func32, Try.ntmps32
      go_wp2_with (first | (go_at_call 52; refine (l13Start_t a0 _ _ _ xa2 _ ha2 ((RA.out.below (by repeat (first | assumption | exact Below.refl _ _ | (refine Below.setCell ?_ (by first | omega | (simp; done) | (simp; omega)) _) | apply below_drewN | apply Below.drew | (refine Below.alloc ?_ (by first | omega | (simp; done) | (simp; omega)) _)))).mono (by first | omega | (simp; done) | (simp; omega))) 0 HC.out).mono ?_; rintro e1 w1 ⟨rfl, rfl⟩) | (go_at_call 57; first | (refine (in_t _ _ _ _ (by omega)).mono ?_; rintro e w' ⟨rfl, rfl⟩) | (refine (in_f _ _ _ _ (by omega)).mono ?_; rintro e w' ⟨rfl, rfl⟩)))
      go_ret2
      exact ⟨rfl, Below.refl _ _⟩
  · have e0 : r0_ClosingError a0 a1 xa2 = 0 := by unfold r0_ClosingError; rw [hln, if_neg (fun g => h1 ⟨g.1, g.2.1⟩)]
    have e1 : r1_ClosingError a0 a1 xa2 = wcode la2 xa2 (volOk a0) := by unfold r1_ClosingError; rw [hln]; exact wcode_two h1
    rw [e0, e1]
    have e6 := wcode_ne (P := volOk a0) h1
    have e7 := wcode_z2 h1
    obtain ⟨C, hC⟩ : ∃ C, wcode la2 xa2 (volOk a0) = C := ⟨_, rfl⟩
    have HC := Lib.hid hC
    rw [hC] at e6 e7 ⊢
    clear e0 e1 h1 hC
    go_enter Try.func32, Try.ntmps32
    go_wp2_with (first | (go_at_call 52; refine (l13Start_t a0 _ _ _ xa2 _ ha2 ((RA.out.below (by repeat (first | assumption | exact Below.refl _ _ | (refine Below.setCell ?_ (by first | omega | (simp; done) | (simp; omega)) _) | apply below_drewN | apply Below.drew | (refine Below.alloc ?_ (by first | omega | (simp; done) | (simp; omega)) _)))).mono (by first | omega | (simp; done) | (simp; omega))) C HC.out).mono ?_; rintro e1 w1 ⟨rfl, rfl⟩))
    go_ret2
    exact ⟨rfl, Below.refl _ _⟩

set_option maxHeartbeats 1600000 in
theorem implC_ClosingError (a0 : Int) (a1 : Int) (a2 : Option Addr) (la2 ca2 : Nat) (xa2 : List RWater) (w : World) (ha0 : (Lit.int .i64 a0).wf = true) (ha1 : (Lit.int .i64 a1).wf = true) (ha2 : la2 ≤ 1048576) (ra2 : Rd_Water w w.heap.size a2 la2 xa2) (fa2 : Wf_Water xa2) :
    Calls Try.prog 33 #[.int .i64 a0, .int .i64 a1, .slice a2 la2 ca2] w fun e w' => e = .returned (.tuple #[.int .i64 (r0_ClosingError a0 a1 xa2), .int .i64 (r1_ClosingError a0 a1 xa2)]) ∧ Below w.heap.size w w' := by
  have hln := ra2.len
  have RA := Lib.hid ra2
  clear ra2
  by_cases h : waList la2 xa2 ∧ volOk a0 ∧ volOk a1
  · have e0 : r0_ClosingError a0 a1 xa2 = a1 - a0 - netW (sumW xa2 la2) := by unfold r0_ClosingError; rw [hln, if_pos h]
    have e1 : r1_ClosingError a0 a1 xa2 = 0 := by unfold r1_ClosingError; rw [hln]; exact wcode_ok h.1 h.2
    rw [e0, e1]
    have HV := Lib.hid h.1
    have HC := Lib.hid (wcode_ok (P := volOk a0 ∧ volOk a1) h.1 h.2)
    have HT2 := Lib.hid (show true = decide (volOk a0 ∧ volOk a1) from (decide_eq_true h.2).symm)
    obtain ⟨⟨v1, v2⟩, v3, v4⟩ := h.2
    obtain ⟨t, ht⟩ : ∃ t, t = sumW xa2 la2 := ⟨_, rfl⟩
    rw [← ht]
    obtain ⟨t0, t1, t2, t3, t4⟩ := t
    have HT := Lib.hid ht
    have HB := Lib.hid (sum_small h.1.1 h.1.2 la2 (Nat.le_refl _) ht)
    obtain ⟨m, hm⟩ : ∃ m, m = netW ⟨t0, t1, t2, t3, t4⟩ := ⟨_, rfl⟩
    have HM := Lib.hid hm
    rw [← hm]
    have hmb : -60000000000 ≤ m ∧ m ≤ 60000000000 := by
      have := HB.out
      rw [hm]
      show -60000000000 ≤ t0 + t1 - t2 - t3 - t4 ∧ t0 + t1 - t2 - t3 - t4 ≤ 60000000000
      omega
    obtain ⟨m1, m2⟩ := hmb
    clear e0 e1 h ht hm
    go_enter Try.func33, Try.ntmps33
    go_wp2_with (first | (go_at_call 53; refine (areVol_two _ a0 a1 _ (by first | omega | (simp; done) | (simp; omega)) (by first | (simp; done) | go_simp) (by first | (simp; done) | go_simp) true HT2.out).mono ?_; rintro e0 W0 ⟨rfl, b0⟩; have d0 : Below w.heap.size w W0 := (by repeat (first | assumption | exact Below.refl _ _ | (refine Below.trans ?_ (b0.mono (by first | omega | (simp; done) | (simp; omega)))) | (refine Below.setCell ?_ (by first | omega | (simp; done) | (simp; omega)) _) | apply below_drewN | apply Below.drew | (refine Below.alloc ?_ (by first | omega | (simp; done) | (simp; omega)) _)))) | (go_at_call 50; refine (runCode_t _ _ _ xa2 true (volOk a0 ∧ volOk a1) _ ha2 ((RA.out.below d0).mono d0.size) HT2.out 0 HC.out).mono ?_; rintro e1 W1 ⟨rfl, b1⟩; have d1 : Below w.heap.size w W1 := d0.trans (b1.mono d0.size)) | (go_at_call 51; refine (sumI_t _ _ _ xa2 _ ha2 ((RA.out.below d1).mono d1.size) HV.out t0 t1 t2 t3 t4 HT.out).mono ?_; rintro e2 W2 ⟨rfl, b2⟩; have d2 : Below w.heap.size w W2 := d1.trans (b2.mono d1.size)) | (go_at_call 47; refine (netI_t t0 t1 t2 t3 t4 _ HB.out m HM.out).mono ?_; rintro e3 W3 ⟨rfl, b3⟩; have d3 : Below w.heap.size w W3 := d2.trans (b3.mono d2.size)))
    go_ret2
    exact ⟨rfl, d3⟩
  · have e0 : r0_ClosingError a0 a1 xa2 = 0 := by unfold r0_ClosingError; rw [hln, if_neg h]
    have e1 : r1_ClosingError a0 a1 xa2 = wcode la2 xa2 (volOk a0 ∧ volOk a1) := by unfold r1_ClosingError; rw [hln]
    rw [e0, e1]
    have e6 := wcode_ne (P := volOk a0 ∧ volOk a1) h
    obtain ⟨C, hC⟩ : ∃ C, wcode la2 xa2 (volOk a0 ∧ volOk a1) = C := ⟨_, rfl⟩
    have HC := Lib.hid hC
    rw [hC] at e6 ⊢
    obtain ⟨v, hv⟩ : ∃ v, v = decide (volOk a0 ∧ volOk a1) := ⟨_, rfl⟩
    have HT2 := Lib.hid hv
    clear e0 e1 h hC hv
    go_enter Try.func33, Try.ntmps33
    go_wp2_with (first | (go_at_call 53; refine (areVol_two _ a0 a1 _ (by first | omega | (simp; done) | (simp; omega)) (by first | (simp; done) | go_simp) (by first | (simp; done) | go_simp) v HT2.out).mono ?_; rintro e0 W0 ⟨rfl, b0⟩; have d0 : Below w.heap.size w W0 := (by repeat (first | assumption | exact Below.refl _ _ | (refine Below.trans ?_ (b0.mono (by first | omega | (simp; done) | (simp; omega)))) | (refine Below.setCell ?_ (by first | omega | (simp; done) | (simp; omega)) _) | apply below_drewN | apply Below.drew | (refine Below.alloc ?_ (by first | omega | (simp; done) | (simp; omega)) _)))) | (go_at_call 50; refine (runCode_t _ _ _ xa2 v (volOk a0 ∧ volOk a1) _ ha2 ((RA.out.below d0).mono d0.size) HT2.out C HC.out).mono ?_; rintro e1 W1 ⟨rfl, b1⟩; have d1 : Below w.heap.size w W1 := d0.trans (b1.mono d0.size)))
    go_ret2
    exact ⟨rfl, d1⟩

end Go.Proofs.Ytfpfmfhhcgafcaa
