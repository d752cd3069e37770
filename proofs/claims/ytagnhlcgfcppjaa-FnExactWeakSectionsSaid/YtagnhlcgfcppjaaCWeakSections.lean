import Derived.Test.YtagnhlcgfcppjaaDikeR
namespace Go.Proofs.Ytagnhlcgfcppjaa
open Go.RowKit

def wkP (y z : Int) : Prop := dlv y ∧ (0 ≤ z ∧ z ≤ 4000)
instance (y z : Int) : Decidable (wkP y z) := by unfold wkP; exact inferInstance
def r0_WeakSections (xa0 : List RSection) (a1 : Int) (a2 : Int) : List Int := if DkOk xa0.length xa0 ∧ wkP a1 a2 then wsN xa0 a1 a2 xa0.length else []
def r1_WeakSections (xa0 : List RSection) (a1 : Int) (a2 : Int) : Int := dcode xa0.length xa0 (wkP a1 a2)
theorem len_r0_WeakSections (xa0 : List RSection) (a1 : Int) (a2 : Int) : (r0_WeakSections xa0 a1 a2).length ≤ 1048576 := by
  unfold r0_WeakSections
  split
  · rename_i h
    have := h.1.2.2
    have := wsN_len xa0 a1 a2 xa0.length
    omega
  · simp

set_option maxHeartbeats 1600000 in
theorem specC_WeakSections (a0 : Option Addr) (la0 ca0 : Nat) (xa0 : List RSection) (a1 : Int) (a2 : Int) (w : World) (ha0 : la0 ≤ 1048576) (ra0 : Rd_Section w w.heap.size a0 la0 xa0) (fa0 : Wf_Section xa0) (ha1 : (Lit.int .i64 a1).wf = true) (ha2 : (Lit.int .i64 a2).wf = true) :
    Calls Try.prog 28 #[.slice a0 la0 ca0, .int .i64 a1, .int .i64 a2] w fun e w' => ∃ B0 dB0, e = .returned (.tuple #[.slice B0 (r0_WeakSections xa0 a1 a2).length dB0, .int .i64 (r1_WeakSections xa0 a1 a2)]) ∧ Below w.heap.size w w' ∧ Wr w' w.heap.size B0 (r0_WeakSections xa0 a1 a2).length (r0_WeakSections xa0 a1 a2) := by
  have hln := ra0.len
  have RA := Lib.hid ra0
  clear ra0
  by_cases h : DkOk la0 xa0 ∧ wkP a1 a2
  · have e0 : r0_WeakSections xa0 a1 a2 = wsN xa0 a1 a2 la0 := by unfold r0_WeakSections; rw [hln, if_pos h]
    have e1 : r1_WeakSections xa0 a1 a2 = 0 := by unfold r1_WeakSections; rw [hln]; exact dcode_ok h.1 h.2
    rw [e0, e1]
    have HV := Lib.hid h.1
    have HC := Lib.hid (dcode_ok h.1 h.2.1)
    have h30 := h.1.2.2
    obtain ⟨g1, g2⟩ := h.2.2
    have hl := h.2.1
    unfold dlv at hl
    obtain ⟨l1, l2⟩ := hl
    clear e0 e1 h
    go_enter Try.func28, Try.ntmps28
    go_wp2_with (first | (go_at_call 63; refine (l07Code_t _ _ _ xa0 _ _ ha0 RA.out _ HC.out).mono ?_; rintro eo wo ⟨rfl, rfl⟩) | (go_at_call 59; first | (refine (in_t _ _ _ _ (by omega)).mono ?_; rintro e w' ⟨rfl, rfl⟩) | (refine (in_f _ _ _ _ (by omega)).mono ?_; rintro e w' ⟨rfl, rfl⟩)))
    go_loopw [9, 10] (fun v i wr => ∃ k : Nat, k ≤ la0 ∧ i = .int .i64 (k : Int) ∧ Below w.heap.size w wr ∧ w.heap.size ≤ wr.heap.size ∧ wr.ownsRow w.heap.size 2 1 v (wsN xa0 a1 a2 k).length ((wsN xa0 a1 a2 k).map (Value.int .i64))) (fun _ i _ => la0 - (intOf i).toNat)
    case atStart => exact ⟨0, by omega, rfl, (by repeat (first | assumption | exact Below.refl _ _ | (refine Below.setCell ?_ (by first | omega | (simp; done) | (simp; omega)) _) | apply below_drewN | apply Below.drew | (refine Below.alloc ?_ (by first | omega | (simp; done) | (simp; omega)) _))), by simp, owns_made rfl (Nat.le_refl _)⟩
    case round =>
      obtain ⟨k, hk, rfl, hb, hz, hown⟩ := hrel
      have hll := wsN_len xa0 a1 a2 k
      by_cases hlt : k < la0
      · obtain ⟨ab, o, rfl, hbB, hc⟩ := (RA.out.below hb).at (by omega)
        have p := hc k hlt
        clear hc
        have hd := HV.out.1 k hlt
        by_cases hg : (xa0.getD k zSection).f1 - a1 < a2
        · have HS := Lib.hid (wsN_yes hg)
          generalize wsN xa0 a1 a2 k = L at *
          generalize xa0.getD k zSection = x at *
          obtain ⟨x0, x1⟩ := x
          obtain ⟨p0, p1⟩ := p
          obtain ⟨_, _, d2, d3⟩ := hd
          simp only at p0 p1 hg d2 d3
          have f1 := IntWalk.i64_in (x1 - a1) (by omega)
          go_wp2_with (first | (at_builtin; refine wpl_app1 rfl _ _ rfl _ _ _ _ _ _ rfl (by exact hown) rfl (by omega) (by exact hz) ?_; intro v1 w1 hown1 hb1 hz1))
          go_roundw
          case rel => exact ⟨k + 1, by omega, by go_num, hb.trans hb1, Nat.le_trans hz hz1, by have h3 := hown1; rw [show L.length + 1 = (L ++ [(k : Int)]).length by simp] at h3; rw [HS.out]; exact h3⟩
          case measure => simp [intOf]; omega
        · have HS := Lib.hid (wsN_no hg)
          generalize wsN xa0 a1 a2 k = L at *
          generalize xa0.getD k zSection = x at *
          obtain ⟨x0, x1⟩ := x
          obtain ⟨p0, p1⟩ := p
          obtain ⟨_, _, d2, d3⟩ := hd
          simp only at p0 p1 hg d2 d3
          have f1 := IntWalk.i64_in (x1 - a1) (by omega)
          go_wp2
          go_roundw
          case rel => exact ⟨k + 1, by omega, by go_num, hb, hz, by rw [HS.out]; exact hown⟩
          case measure => simp [intOf]; omega
      · obtain rfl : k = la0 := by omega
        go_wp2
        obtain ⟨B, d, rfl, hw⟩ := own_wr hown
        go_ret2
        exact ⟨B, d, rfl, hb, hw⟩
  · have e0 : r0_WeakSections xa0 a1 a2 = [] := by unfold r0_WeakSections; rw [hln, if_neg h]
    have e1 : r1_WeakSections xa0 a1 a2 = dcode la0 xa0 (wkP a1 a2) := by unfold r1_WeakSections; rw [hln]
    rw [e0, e1]
    by_cases hv : DkOk la0 xa0 ∧ dlv a1
    · have hz : a2 < 0 ∨ 4000 < a2 := by
        by_cases hy : 0 ≤ a2 ∧ a2 ≤ 4000
        · exact absurd ⟨hv.1, hv.2, hy⟩ h
        · omega
      rw [dcode_no (P := wkP a1 a2) hv.1 (fun p => h ⟨hv.1, p⟩)]
      have HC := Lib.hid (dcode_ok hv.1 hv.2)
      clear e0 e1 h hv
      go_enter Try.func28, Try.ntmps28
      go_wp2_with (first | (go_at_call 63; refine (l07Code_t _ _ _ xa0 _ _ ha0 RA.out _ HC.out).mono ?_; rintro eo wo ⟨rfl, rfl⟩) | (go_at_call 59; first | (refine (in_t _ _ _ _ (by omega)).mono ?_; rintro e w' ⟨rfl, rfl⟩) | (refine (in_f _ _ _ _ (by omega)).mono ?_; rintro e w' ⟨rfl, rfl⟩)))
      go_ret2
      exact ⟨none, 0, rfl, Below.refl _ _, rfl, fun h => absurd h (by simp)⟩
    · have e3 : dcode la0 xa0 (wkP a1 a2) = dcode la0 xa0 (dlv a1) := by
        unfold dcode
        by_cases hd : DkOk la0 xa0
        · rw [if_pos hd, if_pos hd, if_neg (fun p => hv ⟨hd, p.1⟩), if_neg (fun p => hv ⟨hd, p⟩)]
        · rw [if_neg hd, if_neg hd]
      rw [e3]
      have e2 := dcode_ne hv
      obtain ⟨C, hC⟩ : ∃ C, dcode la0 xa0 (dlv a1) = C := ⟨_, rfl⟩
      rw [hC] at e2 ⊢
      have HC := Lib.hid hC
      have e4 : (C == 0) = false := by have := e2; simp only [bne, Bool.not_eq_true'] at this; exact this
      clear e0 e1 e3 h hC hv
      go_enter Try.func28, Try.ntmps28
      go_wp2_with (first | (go_at_call 63; refine (l07Code_t _ _ _ xa0 _ _ ha0 RA.out _ HC.out).mono ?_; rintro eo wo ⟨rfl, rfl⟩) | (go_at_call 59; first | (refine (in_t _ _ _ _ (by omega)).mono ?_; rintro e w' ⟨rfl, rfl⟩) | (refine (in_f _ _ _ _ (by omega)).mono ?_; rintro e w' ⟨rfl, rfl⟩)))
      go_ret2
      exact ⟨none, 0, rfl, Below.refl _ _, rfl, fun h => absurd h (by simp)⟩

set_option maxHeartbeats 1600000 in
theorem implC_WeakSections (a0 : Option Addr) (la0 ca0 : Nat) (xa0 : List RSection) (a1 : Int) (a2 : Int) (w : World) (ha0 : la0 ≤ 1048576) (ra0 : Rd_Section w w.heap.size a0 la0 xa0) (fa0 : Wf_Section xa0) (ha1 : (Lit.int .i64 a1).wf = true) (ha2 : (Lit.int .i64 a2).wf = true) :
    Calls Try.prog 29 #[.slice a0 la0 ca0, .int .i64 a1, .int .i64 a2] w fun e w' => ∃ B0 dB0, e = .returned (.tuple #[.slice B0 (r0_WeakSections xa0 a1 a2).length dB0, .int .i64 (r1_WeakSections xa0 a1 a2)]) ∧ Below w.heap.size w w' ∧ Wr w' w.heap.size B0 (r0_WeakSections xa0 a1 a2).length (r0_WeakSections xa0 a1 a2) := by
  have hln := ra0.len
  have RA := Lib.hid ra0
  clear ra0
  by_cases h : DkOk la0 xa0 ∧ wkP a1 a2
  · have e0 : r0_WeakSections xa0 a1 a2 = lwN xa0 (a1 + a2) la0 := by unfold r0_WeakSections; rw [hln, if_pos h, wsN_lw]
    have e1 : r1_WeakSections xa0 a1 a2 = 0 := by unfold r1_WeakSections; rw [hln]; exact dcode_ok h.1 h.2
    rw [e0, e1]
    have HC := Lib.hid (dcode_ok h.1 h.2)
    have HW := Lib.hid h.2
    have h30 := h.1.2.2
    obtain ⟨g1, g2⟩ := h.2.2
    have hl := h.2.1
    unfold dlv at hl
    obtain ⟨l1, l2⟩ := hl
    clear e0 e1 h
    go_enter Try.func29, Try.ntmps29
    go_wp2_with (first | (go_at_call 64; refine (dlI_t _ _ (by omega)).mono ?_; rintro el wl ⟨rfl, rfl⟩) | (go_at_call 52; first | (refine (within_t _ _ _ _ (by omega)).mono ?_; rintro e w' ⟨rfl, rfl⟩) | (refine (within_f _ _ _ _ (by omega)).mono ?_; rintro e w' ⟨rfl, rfl⟩)) | (go_at_call 57; refine (dikeCode_t _ _ _ xa0 _ (wkP a1 a2) _ ha0 ((RA.out.below (by repeat (first | assumption | exact Below.refl _ _ | (refine Below.setCell ?_ (by first | omega | (simp; done) | (simp; omega)) _) | apply below_drewN | apply Below.drew | (refine Below.alloc ?_ (by first | omega | (simp; done) | (simp; omega)) _)))).mono (by first | omega | (simp; done) | (simp; omega))) (fun _ => (decide_eq_true HW.out).symm) _ HC.out).mono ?_; rintro ed W2 ⟨rfl, b2⟩; have s2 : w.heap.size ≤ W2.heap.size := (by have := b2.size; (try simp at this); omega); have d2 : Below w.heap.size w W2 := (by repeat (first | assumption | exact Below.refl _ _ | (refine Below.trans ?_ (b2.mono (by first | omega | (simp; done) | (simp; omega)))) | (refine Below.setCell ?_ (by first | omega | (simp; done) | (simp; omega)) _) | apply below_drewN | apply Below.drew | (refine Below.alloc ?_ (by first | omega | (simp; done) | (simp; omega)) _)))) | (go_at_call 66; refine (lowerThan_t _ _ _ xa0 _ _ ha0 ((RA.out.below d2).mono (by first | omega | (simp; done) | (simp; omega))) (by omega)).mono ?_; rintro e3 W3 ⟨LB, ld, rfl, b3, x3⟩; have s3 := b3.size))
    go_ret2
    exact ⟨LB, ld, rfl, (by repeat (first | assumption | exact Below.refl _ _ | (refine Below.trans ?_ (b3.mono (by first | omega | (simp; done) | (simp; omega)))) | (refine Below.trans ?_ (d2.mono (by first | omega | (simp; done) | (simp; omega)))) | (refine Below.setCell ?_ (by first | omega | (simp; done) | (simp; omega)) _) | apply below_drewN | apply Below.drew | (refine Below.alloc ?_ (by first | omega | (simp; done) | (simp; omega)) _))), x3.lower (by omega)⟩
  · have e0 : r0_WeakSections xa0 a1 a2 = [] := by unfold r0_WeakSections; rw [hln, if_neg h]
    have e1 : r1_WeakSections xa0 a1 a2 = dcode la0 xa0 (wkP a1 a2) := by unfold r1_WeakSections; rw [hln]
    rw [e0, e1]
    have e2 := dcode_ne h
    obtain ⟨C, hC⟩ : ∃ C, dcode la0 xa0 (wkP a1 a2) = C := ⟨_, rfl⟩
    rw [hC] at e2 ⊢
    have HC := Lib.hid hC
    clear e0 e1 h hC
    by_cases hl : -2000 ≤ a1 ∧ a1 ≤ 2000
    · by_cases hz : 0 ≤ a2 ∧ a2 ≤ 4000
      · have HW := Lib.hid (show wkP a1 a2 from ⟨hl, hz⟩)
        obtain ⟨z1, z2⟩ := hz
        go_enter Try.func29, Try.ntmps29
        go_wp2_with (first | (go_at_call 64; refine (dlI_t _ _ (by omega)).mono ?_; rintro el wl ⟨rfl, rfl⟩) | (go_at_call 52; first | (refine (within_t _ _ _ _ (by omega)).mono ?_; rintro e w' ⟨rfl, rfl⟩) | (refine (within_f _ _ _ _ (by omega)).mono ?_; rintro e w' ⟨rfl, rfl⟩)) | (go_at_call 57; refine (dikeCode_t _ _ _ xa0 _ (wkP a1 a2) _ ha0 ((RA.out.below (by repeat (first | assumption | exact Below.refl _ _ | (refine Below.setCell ?_ (by first | omega | (simp; done) | (simp; omega)) _) | apply below_drewN | apply Below.drew | (refine Below.alloc ?_ (by first | omega | (simp; done) | (simp; omega)) _)))).mono (by first | omega | (simp; done) | (simp; omega))) (fun _ => (decide_eq_true HW.out).symm) _ HC.out).mono ?_; rintro ed W2 ⟨rfl, b2⟩; have s2 : w.heap.size ≤ W2.heap.size := (by have := b2.size; (try simp at this); omega); have d2 : Below w.heap.size w W2 := (by repeat (first | assumption | exact Below.refl _ _ | (refine Below.trans ?_ (b2.mono (by first | omega | (simp; done) | (simp; omega)))) | (refine Below.setCell ?_ (by first | omega | (simp; done) | (simp; omega)) _) | apply below_drewN | apply Below.drew | (refine Below.alloc ?_ (by first | omega | (simp; done) | (simp; omega)) _)))))
        go_ret2
        exact ⟨none, 0, rfl, (by repeat (first | assumption | exact Below.refl _ _ | (refine Below.trans ?_ (b2.mono (by first | omega | (simp; done) | (simp; omega)))) | (refine Below.setCell ?_ (by first | omega | (simp; done) | (simp; omega)) _) | apply below_drewN | apply Below.drew | (refine Below.alloc ?_ (by first | omega | (simp; done) | (simp; omega)) _))), rfl, fun h => absurd h (by simp)⟩
      · have HW := Lib.hid (show ¬ wkP a1 a2 from fun p => hz p.2)
        have hz2 : a2 < 0 ∨ 4000 < a2 := by omega
        clear hz
        go_enter Try.func29, Try.ntmps29
        go_wp2_with (first | (go_at_call 64; refine (dlI_t _ _ (by omega)).mono ?_; rintro el wl ⟨rfl, rfl⟩) | (go_at_call 52; first | (refine (within_t _ _ _ _ (by omega)).mono ?_; rintro e w' ⟨rfl, rfl⟩) | (refine (within_f _ _ _ _ (by omega)).mono ?_; rintro e w' ⟨rfl, rfl⟩)) | (go_at_call 57; refine (dikeCode_t _ _ _ xa0 _ (wkP a1 a2) _ ha0 ((RA.out.below (by repeat (first | assumption | exact Below.refl _ _ | (refine Below.setCell ?_ (by first | omega | (simp; done) | (simp; omega)) _) | apply below_drewN | apply Below.drew | (refine Below.alloc ?_ (by first | omega | (simp; done) | (simp; omega)) _)))).mono (by first | omega | (simp; done) | (simp; omega))) (fun _ => (decide_eq_false HW.out).symm) _ HC.out).mono ?_; rintro ed W2 ⟨rfl, b2⟩; have s2 : w.heap.size ≤ W2.heap.size := (by have := b2.size; (try simp at this); omega); have d2 : Below w.heap.size w W2 := (by repeat (first | assumption | exact Below.refl _ _ | (refine Below.trans ?_ (b2.mono (by first | omega | (simp; done) | (simp; omega)))) | (refine Below.setCell ?_ (by first | omega | (simp; done) | (simp; omega)) _) | apply below_drewN | apply Below.drew | (refine Below.alloc ?_ (by first | omega | (simp; done) | (simp; omega)) _)))))
        go_ret2
        exact ⟨none, 0, rfl, (by repeat (first | assumption | exact Below.refl _ _ | (refine Below.trans ?_ (b2.mono (by first | omega | (simp; done) | (simp; omega)))) | (refine Below.setCell ?_ (by first | omega | (simp; done) | (simp; omega)) _) | apply below_drewN | apply Below.drew | (refine Below.alloc ?_ (by first | omega | (simp; done) | (simp; omega)) _))), rfl, fun h => absurd h (by simp)⟩
    · have HW := Lib.hid (show ¬ wkP a1 a2 from fun p => hl p.1)
      go_enter Try.func29, Try.ntmps29
      go_wp2_with (first | (go_at_call 64; refine (dlI_f _ _ hl).mono ?_; rintro el wl ⟨rfl, rfl⟩) | (go_at_call 57; refine (dikeCode_t _ _ _ xa0 _ (wkP a1 a2) _ ha0 ((RA.out.below (by repeat (first | assumption | exact Below.refl _ _ | (refine Below.setCell ?_ (by first | omega | (simp; done) | (simp; omega)) _) | apply below_drewN | apply Below.drew | (refine Below.alloc ?_ (by first | omega | (simp; done) | (simp; omega)) _)))).mono (by first | omega | (simp; done) | (simp; omega))) (fun _ => (decide_eq_false HW.out).symm) _ HC.out).mono ?_; rintro ed W2 ⟨rfl, b2⟩; have s2 : w.heap.size ≤ W2.heap.size := (by have := b2.size; (try simp at this); omega); have d2 : Below w.heap.size w W2 := (by repeat (first | assumption | exact Below.refl _ _ | (refine Below.trans ?_ (b2.mono (by first | omega | (simp; done) | (simp; omega)))) | (refine Below.setCell ?_ (by first | omega | (simp; done) | (simp; omega)) _) | apply below_drewN | apply Below.drew | (refine Below.alloc ?_ (by first | omega | (simp; done) | (simp; omega)) _)))))
      go_ret2
      exact ⟨none, 0, rfl, (by repeat (first | assumption | exact Below.refl _ _ | (refine Below.trans ?_ (b2.mono (by first | omega | (simp; done) | (simp; omega)))) | (refine Below.setCell ?_ (by first | omega | (simp; done) | (simp; omega)) _) | apply below_drewN | apply Below.drew | (refine Below.alloc ?_ (by first | omega | (simp; done) | (simp; omega)) _))), rfl, fun h => absurd h (by simp)⟩

end Go.Proofs.Ytagnhlcgfcppjaa
