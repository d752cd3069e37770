import Derived.Test.YthpnkkbinffmkaaTideJ
import Derived.Test.YthpnkkbinffmkaaIxT
namespace Go.Proofs.Ythpnkkbinffmkaa
open Go.RowKit

/- caps: (ka0 : la0 ≤ ca0) -/
def hiB (n : Nat) (xs : List RTide) (k : Nat) : Bool := decide (hiAt n xs k)
def r0_HighWaters (xa0 : List RTide) : List Int := if TdOk xa0.length xa0 then ixN (hiB xa0.length xa0) xa0.length else []
def r1_HighWaters (xa0 : List RTide) : Int := tcode xa0.length xa0 True
theorem len_r0_HighWaters (xa0 : List RTide) : (r0_HighWaters xa0).length ≤ 1048576 := by
  unfold r0_HighWaters
  split
  · rename_i h
    have := h.2.2
    have := ixN_len (hiB xa0.length xa0) xa0.length
    omega
  · simp

set_option maxHeartbeats 1600000 in
theorem specC_HighWaters (a0 : Option Addr) (la0 ca0 : Nat) (xa0 : List RTide) (w : World) (ha0 : la0 ≤ 1048576) (ra0 : Rd_Tide w w.heap.size a0 la0 xa0) (fa0 : Wf_Tide xa0) (ka0 : la0 ≤ ca0) :
    Calls Try.prog 21 #[.slice a0 la0 ca0] w fun e w' => ∃ B0 dB0, e = .returned (.tuple #[.slice B0 (r0_HighWaters xa0).length dB0, .int .i64 (r1_HighWaters xa0)]) ∧ Below w.heap.size w w' ∧ Wr w' w.heap.size B0 (r0_HighWaters xa0).length (r0_HighWaters xa0) := by
  have hln := ra0.len
  have RA := Lib.hid ra0
  clear ra0 fa0 ka0
  by_cases h : TdOk la0 xa0
  · have e0 : r0_HighWaters xa0 = ixN (hiB la0 xa0) la0 := by unfold r0_HighWaters; rw [hln, if_pos h]
    have e1 : r1_HighWaters xa0 = 0 := by unfold r1_HighWaters; rw [hln]; exact tcode_ok h trivial
    rw [e0, e1]
    have HV := Lib.hid h
    have h2 := h.2.1
    have h40 := h.2.2
    have HI0 := Lib.hid (show hiB la0 xa0 0 = decide (tL xa0 1 < tL xa0 0) from decide_eq_decide.2 (hi_spec0 h))
    have HIS := Lib.hid (show ∀ j, j + 1 < la0 → hiB la0 xa0 (j + 1) = decide (tL xa0 j < tL xa0 (j + 1)) from fun j hj => decide_eq_decide.2 (hi_spec h hj))
    clear e0 e1 h
    obtain ⟨p, hp⟩ : ∃ p, p = hiB la0 xa0 := ⟨_, rfl⟩
    rw [← hp] at HI0 HIS ⊢
    clear hp
    go_enter Try.func21, Try.ntmps21
    go_wp2_with (first | (go_at_call 38; refine (l08Ok_any _ _ _ xa0 _ ha0 RA.out true ⟨fun _ => HV.out, fun _ => rfl⟩).mono ?_; rintro eo wo ⟨rfl, b1⟩; have s1 := b1.size))
    go_loopw [4, 5] (fun v i wr => ∃ k : Nat, k ≤ la0 ∧ i = .int .i64 (k : Int) ∧ Below w.heap.size w wr ∧ w.heap.size ≤ wr.heap.size ∧ wr.ownsRow w.heap.size 2 1 v (ixN p k).length ((ixN p k).map (Value.int .i64))) (fun _ i _ => la0 - (intOf i).toNat)
    case atStart => exact ⟨0, by omega, rfl, (by repeat (first | assumption | exact Below.refl _ _ | (refine Below.trans ?_ (b1.mono (by first | omega | (simp; done) | (simp; omega)))) | (refine Below.setCell ?_ (by first | omega | (simp; done) | (simp; omega)) _) | apply below_drewN | apply Below.drew | (refine Below.alloc ?_ (by first | omega | (simp; done) | (simp; omega)) _))), by simp; omega, owns_made rfl s1⟩
    case round =>
      obtain ⟨k, hk, rfl, hb, hz, hown⟩ := hrel
      have hll := ixN_len p k
      by_cases hlt : k < la0
      · obtain ⟨ab, o, rfl, hbB, hc⟩ := (RA.out.below hb).ml (by omega)
        obtain ⟨q0, q1⟩ := hc k hlt
        obtain ⟨u0, u1⟩ := hc 0 (by omega)
        obtain ⟨v0, v1⟩ := hc 1 (by omega)
        rw [Nat.zero_mul, Nat.add_zero] at u0 u1
        rw [Nat.one_mul] at v0 v1
        have hown2 := fun nq => owns_below hown (below_drewN (Below.refl wr.heap.size wr) nq)
        have g9 : (1 : Int) < (la0 : Int) := by omega
        have g8 : (0 : Int) < (la0 : Int) := by omega
        rcases Nat.eq_zero_or_pos k with hk0 | hk0
        · have g1 : decide ((k : Int) > 0) = false := by simp; omega
          have g3 : ¬ 0 < k := by omega
          have g5 : ((k : Int) == 0) = true := by simp; omega
          have g6 : k = 0 := hk0
          have HQ := Lib.hid (show p k = decide (tL xa0 1 < tL xa0 0) by rw [hk0]; exact HI0.out)
          have HY := Lib.hid (fun (c : p k = true) => ixN_yes c)
          have HNO := Lib.hid (fun (c : p k = false) => ixN_no c)
          have HKK := Lib.hid hk0
          clear hc hk0 HI0 HIS g6
          generalize tL xa0 0 = l0 at *
          generalize tL xa0 1 = l1 at *
          generalize tM xa0 k = mk at *
          generalize tL xa0 k = lk at *
          generalize tM xa0 0 = m0 at *
          generalize tM xa0 1 = m1 at *
          by_cases c : l1 < l0
          · have HS := Lib.hid (HY.out (by rw [HQ.out]; exact decide_eq_true c))
            have c2 : decide (l0 > l1) = true := decide_eq_true c
            generalize ixN p k = L at *
            go_wp2
            go_quiet (fail)
            go_wp2_with (at_builtin; refine wpl_app1x rfl _ _ rfl _ _ (by rfl) _ _ _ _ _ rfl (hown2 _) rfl (by omega) (by exact hz) ?_; intro v1 w1 hown1 hb1 hz1)
            go_roundw
            case rel => exact ⟨k + 1, by omega, by go_num, (below_drewN hb _).trans hb1, Nat.le_trans hz hz1, by have h3 := hown1; rw [show L.length + 1 = (L ++ [(k : Int)]).length by simp] at h3; rw [HS.out]; exact h3⟩
            case measure => simp [intOf]; omega
          · have HS := Lib.hid (HNO.out (by rw [HQ.out]; exact decide_eq_false c))
            have c2 : decide (l0 > l1) = false := decide_eq_false c
            go_wp2
            go_quiet (fail)
            go_wp2
            go_roundw
            case rel => exact ⟨k + 1, by omega, by go_num, below_drewN hb _, hz, by rw [HS.out]; exact hown2 _⟩
            case measure => simp [intOf]; omega
        · obtain ⟨j, hj⟩ : ∃ j, j = k - 1 := ⟨_, rfl⟩
          obtain ⟨r0, r1⟩ := hc j (by omega)
          have x1 : (k : Int) - 1 = (j : Int) := by omega
          have g1 : decide ((k : Int) > 0) = true := by simp; omega
          have g5 : ((k : Int) == 0) = false := by simp; omega
          have HQ := Lib.hid (show p k = decide (tL xa0 j < tL xa0 k) by
            obtain rfl : k = j + 1 := by omega
            exact HIS.out j hlt)
          have HY := Lib.hid (fun (c : p k = true) => ixN_yes c)
          have HNO := Lib.hid (fun (c : p k = false) => ixN_no c)
          clear hc hj HI0 HIS
          generalize tL xa0 0 = l0 at *
          generalize tL xa0 1 = l1 at *
          generalize tM xa0 k = mk at *
          generalize tL xa0 k = lk at *
          generalize tM xa0 j = mj at *
          generalize tL xa0 j = lj at *
          generalize tM xa0 0 = m0 at *
          generalize tM xa0 1 = m1 at *
          by_cases c : lj < lk
          · have HS := Lib.hid (HY.out (by rw [HQ.out]; exact decide_eq_true c))
            have c2 : decide (lk > lj) = true := decide_eq_true c
            generalize ixN p k = L at *
            go_wp2
            go_quiet (fail)
            go_wp2_with (at_builtin; refine wpl_app1x rfl _ _ rfl _ _ (by rfl) _ _ _ _ _ rfl (hown2 _) rfl (by omega) (by exact hz) ?_; intro v1 w1 hown1 hb1 hz1)
            go_roundw
            case rel => exact ⟨k + 1, by omega, by go_num, (below_drewN hb _).trans hb1, Nat.le_trans hz hz1, by have h3 := hown1; rw [show L.length + 1 = (L ++ [(k : Int)]).length by simp] at h3; rw [HS.out]; exact h3⟩
            case measure => simp [intOf]; omega
          · have HS := Lib.hid (HNO.out (by rw [HQ.out]; exact decide_eq_false c))
            have c2 : decide (lk > lj) = false := decide_eq_false c
            go_wp2
            go_quiet (fail)
            go_wp2
            go_roundw
            case rel => exact ⟨k + 1, by omega, by go_num, below_drewN hb _, hz, by rw [HS.out]; exact hown2 _⟩
            case measure => simp [intOf]; omega
      · obtain rfl : k = la0 := by omega
        obtain ⟨B, d, rfl, hw⟩ := own_wr hown
        go_wp2
        go_ret2
        exact ⟨B, d, rfl, hb, hw⟩
  · have e0 : r0_HighWaters xa0 = [] := by unfold r0_HighWaters; rw [hln, if_neg h]
    have e1 : r1_HighWaters xa0 = 1 := by unfold r1_HighWaters; rw [hln]; exact tcode_bad h
    rw [e0, e1]
    have HV := Lib.hid h
    clear e0 e1 h
    go_enter Try.func21, Try.ntmps21
    go_wp2_with (first | (go_at_call 38; refine (l08Ok_any _ _ _ xa0 _ ha0 RA.out false ⟨fun h => by simp at h, fun h => absurd h HV.out⟩).mono ?_; rintro eo wo ⟨rfl, b1⟩))
    go_ret2
    exact ⟨none, 0, rfl, b1, rfl, fun h => absurd h (by simp)⟩

set_option maxHeartbeats 800000 in
theorem implC_HighWaters (a0 : Option Addr) (la0 ca0 : Nat) (xa0 : List RTide) (w : World) (ha0 : la0 ≤ 1048576) (ra0 : Rd_Tide w w.heap.size a0 la0 xa0) (fa0 : Wf_Tide xa0) (ka0 : la0 ≤ ca0) :
    Calls Try.prog 22 #[.slice a0 la0 ca0] w fun e w' => ∃ B0 dB0, e = .returned (.tuple #[.slice B0 (r0_HighWaters xa0).length dB0, .int .i64 (r1_HighWaters xa0)]) ∧ Below w.heap.size w w' ∧ Wr w' w.heap.size B0 (r0_HighWaters xa0).length (r0_HighWaters xa0) := by
  have hln := ra0.len
  have RA := Lib.hid ra0
  clear ra0 fa0
  by_cases h : TdOk la0 xa0
  · have e0 : r0_HighWaters xa0 = ixN (hiB la0 xa0) la0 := by unfold r0_HighWaters; rw [hln, if_pos h]
    have e1 : r1_HighWaters xa0 = 0 := by unfold r1_HighWaters; rw [hln]; exact tcode_ok h trivial
    rw [e0, e1]
    have HC := Lib.hid (tcode_ok (P := True) h trivial)
    have h40 := h.2.2
    clear e0 e1 h
    go_enter Try.func22, Try.ntmps22
    go_wp2_with (first | (go_at_call 51; refine (tidesCode_t _ _ _ xa0 _ True _ ha0 ka0 RA.out (fun _ => rfl) _ HC.out).mono ?_; rintro ed W2 ⟨rfl, b2⟩; have s2 := b2.size) | (go_at_call 54; refine (ix_hi _ la0 (hiB la0 xa0) _ (by omega) (fun i k W v hi hk hb hv => by subst hi; exact isHigh_t _ _ _ k xa0 W ha0 ka0 ((RA.out.below' b2).below' hb) hk v hv)).mono ?_; rintro e3 W3 ⟨B, d, rfl, b3, hw⟩; have HW := Lib.hid (hw.lower s2); clear hw))
    go_ret2
    exact ⟨B, d, rfl, b2.trans (b3.mono s2), HW.out⟩
  · have e0 : r0_HighWaters xa0 = [] := by unfold r0_HighWaters; rw [hln, if_neg h]
    have e1 : r1_HighWaters xa0 = 1 := by unfold r1_HighWaters; rw [hln]; exact tcode_bad h
    rw [e0, e1]
    have HC := Lib.hid (tcode_bad (P := True) h)
    clear e0 e1 h
    go_enter Try.func22, Try.ntmps22
    go_wp2_with (first | (go_at_call 51; refine (tidesCode_t _ _ _ xa0 _ True _ ha0 ka0 RA.out (fun _ => rfl) _ HC.out).mono ?_; rintro ed W2 ⟨rfl, b2⟩; have s2 := b2.size))
    go_ret2
    exact ⟨none, 0, rfl, b2, rfl, fun h => absurd h (by simp)⟩

end Go.Proofs.Ythpnkkbinffmkaa
