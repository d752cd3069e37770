import Derived.Test.YthjcpgabdlfojaaRainM
import Derived.Test.YthjcpgabdlfojaaOwnS
namespace Go.Proofs.Ythjcpgabdlfojaa
open Go.RowKit

def roP (a1 a2 a3 : Int) : Prop := (0 ≤ a1 ∧ a1 ≤ 100000) ∧ isRn a2 ∧ (0 ≤ a3 ∧ a3 ≤ a1)
instance (a1 a2 a3 : Int) : Decidable (roP a1 a2 a3) := by unfold roP; exact inferInstance
def r0_RunoffOf (xa0 : List Int) (a1 : Int) (a2 : Int) (a3 : Int) : List Int := if RainOk xa0.length xa0 ∧ roP a1 a2 a3 then rowOf (offN a1 a2 a3 xa0) xa0.length else []
def r1_RunoffOf (xa0 : List Int) (a1 : Int) (a2 : Int) (a3 : Int) : Int := if RainOk xa0.length xa0 ∧ roP a1 a2 a3 then soilN a1 a2 a3 xa0 xa0.length else 0
def r2_RunoffOf (xa0 : List Int) (a1 : Int) (a2 : Int) (a3 : Int) : Int := rcode xa0.length xa0 (roP a1 a2 a3)
theorem len_r0_RunoffOf (xa0 : List Int) (a1 : Int) (a2 : Int) (a3 : Int) : (r0_RunoffOf xa0 a1 a2 a3).length ≤ 1048576 := by
  unfold r0_RunoffOf
  split
  · rename_i h
    have := h.1.2.2
    rw [rowOf_len]
    omega
  · simp

set_option maxHeartbeats 1600000 in
theorem implC_RunoffOf (a0 : Option Addr) (la0 ca0 : Nat) (xa0 : List Int) (a1 : Int) (a2 : Int) (a3 : Int) (w : World) (ha0 : la0 ≤ 1048576) (ra0 : Rd w w.heap.size a0 la0 xa0) (fa0 : Wf xa0) (ha1 : (Lit.int .i64 a1).wf = true) (ha2 : (Lit.int .i64 a2).wf = true) (ha3 : (Lit.int .i64 a3).wf = true) :
    Calls Try.prog 10 #[.slice a0 la0 ca0, .int .i64 a1, .int .i64 a2, .int .i64 a3] w fun e w' => ∃ B0 dB0, e = .returned (.tuple #[.slice B0 (r0_RunoffOf xa0 a1 a2 a3).length dB0, .int .i64 (r1_RunoffOf xa0 a1 a2 a3), .int .i64 (r2_RunoffOf xa0 a1 a2 a3)]) ∧ Below w.heap.size w w' ∧ Wr w' w.heap.size B0 (r0_RunoffOf xa0 a1 a2 a3).length (r0_RunoffOf xa0 a1 a2 a3) := by
  have hln := ra0.1
  have RA := Lib.hid ra0
  clear ra0
  by_cases h : RainOk la0 xa0 ∧ roP a1 a2 a3
  · have e0 : r0_RunoffOf xa0 a1 a2 a3 = rowOf (offN a1 a2 a3 xa0) la0 := by unfold r0_RunoffOf; rw [hln, if_pos h]
    have e1 : r1_RunoffOf xa0 a1 a2 a3 = soilN a1 a2 a3 xa0 la0 := by unfold r1_RunoffOf; rw [hln, if_pos h]
    have e2 : r2_RunoffOf xa0 a1 a2 a3 = 0 := by unfold r2_RunoffOf; rw [hln]; exact rcode_ok h.1 h.2
    rw [e0, e1, e2, rowOf_len]
    have HR := Lib.hid (show rcode la0 xa0 (roP a1 a2 a3) = 0 from rcode_ok h.1 h.2)
    have HP := Lib.hid (show true = decide (roP a1 a2 a3) from (decide_eq_true h.2).symm)
    obtain ⟨hv, ⟨h1, h2⟩, h3, h4, h5⟩ := h
    have HB := Lib.hid (soilN_bd hv h3 ⟨h1, h2⟩ ⟨h4, h5⟩)
    have h120 := hv.2.2
    have h121 := hv.2.1
    have HV := Lib.hid hv
    obtain ⟨l1, l2⟩ := h3
    clear e0 e1 e2 hv
    obtain ⟨i0, hi, hz0, hz1, hz2⟩ := info_parts info_i64
    have hmk := fun W => run_make_rowN (P := Try.prog) 24 2 i0 (.int .i64 0) Try.underlying24 hi hz0 .i64 .i64 la0 la0 (Nat.le_refl _) (by rw [hz2]; omega) (by omega) W
    rw [hz1] at hmk
    clear hi hz0 hz1 hz2
    go_enter Try.func10, Try.ntmps10
    go_wp2_with (first | (go_at_call 19; first | (refine (within_t _ _ _ _ (by omega)).mono ?_; rintro e w' ⟨rfl, rfl⟩) | (refine (within_f _ _ _ _ (by omega)).mono ?_; rintro e w' ⟨rfl, rfl⟩)) | (go_at_call 18; refine (rainCode_t _ _ _ xa0 _ (roP a1 a2 a3) true ha0 RA.out HP.out).mono ?_; rintro e1 W1 ⟨rfl, hw1⟩; have d1 : Below w.heap.size w W1 := (by rw [hw1]; exact (by repeat (first | assumption | exact Below.refl _ _ | (refine Below.setCell ?_ (by first | omega | (simp; done) | (simp; omega)) _) | apply below_drewN | apply Below.drew | (refine Below.alloc ?_ (by first | omega | (simp; done) | (simp; omega)) _)))); clear hw1; have RB := Lib.hid ((RA.out.below d1).mono d1.size); rw [HR.out]))
    go_loopw [3, 14, 15, 38] (fun hl _ _ i wr => ∃ k : Nat, k ≤ la0 ∧ i = .int .i64 (k : Int) ∧ hl = .int .i64 (soilN a1 a2 a3 xa0 k) ∧ Below W1.heap.size W1 wr ∧ W1.heap.size < wr.heap.size ∧ Half la0 W1.heap.size 0 (offN a1 a2 a3 xa0) (List.replicate la0 0) k wr) (fun _ _ _ i _ => la0 - (intOf i).toNat)
    case atStart => exact ⟨0, by omega, rfl, rfl, (Below.refl _ _).alloc (Nat.le_refl _) _, by simp, Half.new _ _ _ _ _ (by simp)⟩
    case round =>
      obtain ⟨k, hk, rfl, rfl, hb, hs, hr⟩ := hrel
      by_cases hlt : k < la0
      · obtain ⟨b, o, rfl, hbB, hc⟩ := RB.out.2 (by omega)
        obtain ⟨c1, c2⟩ := hr k hlt
        rw [if_neg (by omega)] at c1
        simp only [Nat.zero_add] at c1 c2
        have c3 := (hb.cell (p := ⟨b, o + k, none⟩) hbB).trans (hc k hlt)
        clear hc
        have hg := HV.out.1 k hlt
        obtain ⟨g1, g2⟩ := hg
        obtain ⟨p1, p2⟩ := HB.out k (by omega)
        have HS := Lib.hid (show soilN a1 a2 a3 xa0 (k + 1) = min a1 (max 0 (soilN a1 a2 a3 xa0 k - a2) + xa0.getD k 0) from rfl)
        have HF := Lib.hid (show offN a1 a2 a3 xa0 k = max 0 (max 0 (soilN a1 a2 a3 xa0 k - a2) + xa0.getD k 0 - a1) from rfl)
        obtain ⟨x, hx⟩ : ∃ x, x = xa0.getD k 0 := ⟨_, rfl⟩
        rw [← hx] at c3 g1 g2 HS HF
        clear hx
        obtain ⟨s, hs'⟩ : ∃ s, s = soilN a1 a2 a3 xa0 k := ⟨_, rfl⟩
        rw [← hs'] at p1 p2 HS HF ⊢
        clear hs'
        obtain ⟨t, ht⟩ : ∃ t, t = max 0 (s - a2) + x := ⟨_, rfl⟩
        rw [← ht] at HS HF
        have ht2 : 0 ≤ t ∧ t ≤ 103000 := by omega
        obtain ⟨t1, t2⟩ := ht2
        have HT := Lib.hid ht
        clear ht
        by_cases hm : 0 ≤ t - a1
        · have f2 := IntWalk.i64_in (t - a1) (by omega)
          have f3 := IntWalk.i64_in (t - (t - a1)) (by omega)
          go_wp2_with (go_at_call 20; refine (heldAfter_t _ _ _ _ (by omega) (by omega) (by omega)).mono ?_; rintro e w' ⟨rfl, rfl⟩; rw [← HT.out])
          go_roundw
          case rel => exact ⟨k + 1, by omega, by go_num, by rw [HS.out]; exact congrArg _ (by omega), hb.setCell (Nat.le_refl _) _, by simpa using hs, by have := hr.step (t - a1) (by rw [HF.out]; omega); simpa only [Nat.zero_add] using this⟩
          case measure => simp [intOf]; omega
        · have f2 := IntWalk.i64_in (t - a1) (by omega)
          go_wp2_with (go_at_call 20; refine (heldAfter_t _ _ _ _ (by omega) (by omega) (by omega)).mono ?_; rintro e w' ⟨rfl, rfl⟩; rw [← HT.out])
          go_roundw
          case rel => exact ⟨k + 1, by omega, by go_num, by rw [HS.out]; exact congrArg _ (by omega), hb.setCell (Nat.le_refl _) _, by simpa using hs, by have := hr.step 0 (by rw [HF.out]; omega); simpa only [Nat.zero_add] using this⟩
          case measure => simp [intOf]; omega
      · obtain rfl : k = la0 := by omega
        go_wp2
        go_ret3
        exact ⟨_, _, rfl, d1.trans (hb.mono d1.size), hr.done (rowOf_len _ _) (fun j hj => rowOf_at _ _ _ hj) d1.size hs⟩
  · have e0 : r0_RunoffOf xa0 a1 a2 a3 = [] := by unfold r0_RunoffOf; rw [hln, if_neg h]
    have e1 : r1_RunoffOf xa0 a1 a2 a3 = 0 := by unfold r1_RunoffOf; rw [hln, if_neg h]
    have e2 : r2_RunoffOf xa0 a1 a2 a3 = rcode la0 xa0 (roP a1 a2 a3) := by unfold r2_RunoffOf; rw [hln]
    rw [e0, e1, e2]
    have e3 := rcode_ne h
    clear e0 e1 e2 h
    generalize hC : rcode la0 xa0 (roP a1 a2 a3) = C at *
    have HC := Lib.hid hC
    clear hC
    by_cases h1 : 0 ≤ a1 ∧ a1 ≤ 100000
    · by_cases h2 : 0 ≤ a2 ∧ a2 ≤ 3000
      · by_cases h3 : 0 ≤ a3 ∧ a3 ≤ a1
        · have HP := Lib.hid (show true = decide (roP a1 a2 a3) from (decide_eq_true ⟨h1, h2, h3⟩).symm)
          go_enter Try.func10, Try.ntmps10
          go_wp2_with (first | (go_at_call 19; first | (refine (within_t _ _ _ _ (by omega)).mono ?_; rintro e w' ⟨rfl, rfl⟩) | (refine (within_f _ _ _ _ (by omega)).mono ?_; rintro e w' ⟨rfl, rfl⟩)) | (go_at_call 18; refine (rainCode_t _ _ _ xa0 _ (roP a1 a2 a3) true ha0 RA.out HP.out).mono ?_; rintro e1 W1 ⟨rfl, hw1⟩; have d1 : Below w.heap.size w W1 := (by rw [hw1]; exact (by repeat (first | assumption | exact Below.refl _ _ | (refine Below.setCell ?_ (by first | omega | (simp; done) | (simp; omega)) _) | apply below_drewN | apply Below.drew | (refine Below.alloc ?_ (by first | omega | (simp; done) | (simp; omega)) _)))); clear hw1; have RB := Lib.hid ((RA.out.below d1).mono d1.size); rw [HC.out]))
          go_ret3
          exact ⟨none, 0, rfl, d1, rfl, fun h => absurd h (by simp)⟩
        · have HP := Lib.hid (show false = decide (roP a1 a2 a3) from (decide_eq_false (fun g => h3 g.2.2)).symm)
          have h3' : a3 < 0 ∨ a1 < a3 := by omega
          clear h3
          go_enter Try.func10, Try.ntmps10
          go_wp2_with (first | (go_at_call 19; first | (refine (within_t _ _ _ _ (by omega)).mono ?_; rintro e w' ⟨rfl, rfl⟩) | (refine (within_f _ _ _ _ (by omega)).mono ?_; rintro e w' ⟨rfl, rfl⟩)) | (go_at_call 18; refine (rainCode_t _ _ _ xa0 _ (roP a1 a2 a3) false ha0 RA.out HP.out).mono ?_; rintro e1 W1 ⟨rfl, hw1⟩; have d1 : Below w.heap.size w W1 := (by rw [hw1]; exact (by repeat (first | assumption | exact Below.refl _ _ | (refine Below.setCell ?_ (by first | omega | (simp; done) | (simp; omega)) _) | apply below_drewN | apply Below.drew | (refine Below.alloc ?_ (by first | omega | (simp; done) | (simp; omega)) _)))); clear hw1; have RB := Lib.hid ((RA.out.below d1).mono d1.size); rw [HC.out]))
          go_ret3
          exact ⟨none, 0, rfl, d1, rfl, fun h => absurd h (by simp)⟩
      · have HP := Lib.hid (show false = decide (roP a1 a2 a3) from (decide_eq_false (fun g => h2 g.2.1)).symm)
        have h2' : a2 < 0 ∨ 3000 < a2 := by omega
        clear h2
        go_enter Try.func10, Try.ntmps10
        go_wp2_with (first | (go_at_call 19; first | (refine (within_t _ _ _ _ (by omega)).mono ?_; rintro e w' ⟨rfl, rfl⟩) | (refine (within_f _ _ _ _ (by omega)).mono ?_; rintro e w' ⟨rfl, rfl⟩)) | (go_at_call 18; refine (rainCode_t _ _ _ xa0 _ (roP a1 a2 a3) false ha0 RA.out HP.out).mono ?_; rintro e1 W1 ⟨rfl, hw1⟩; have d1 : Below w.heap.size w W1 := (by rw [hw1]; exact (by repeat (first | assumption | exact Below.refl _ _ | (refine Below.setCell ?_ (by first | omega | (simp; done) | (simp; omega)) _) | apply below_drewN | apply Below.drew | (refine Below.alloc ?_ (by first | omega | (simp; done) | (simp; omega)) _)))); clear hw1; have RB := Lib.hid ((RA.out.below d1).mono d1.size); rw [HC.out]))
        go_ret3
        exact ⟨none, 0, rfl, d1, rfl, fun h => absurd h (by simp)⟩
    · have HP := Lib.hid (show false = decide (roP a1 a2 a3) from (decide_eq_false (fun g => h1 g.1)).symm)
      have h1' : a1 < 0 ∨ 100000 < a1 := by omega
      clear h1
      go_enter Try.func10, Try.ntmps10
      go_wp2_with (first | (go_at_call 19; first | (refine (within_t _ _ _ _ (by omega)).mono ?_; rintro e w' ⟨rfl, rfl⟩) | (refine (within_f _ _ _ _ (by omega)).mono ?_; rintro e w' ⟨rfl, rfl⟩)) | (go_at_call 18; refine (rainCode_t _ _ _ xa0 _ (roP a1 a2 a3) false ha0 RA.out HP.out).mono ?_; rintro e1 W1 ⟨rfl, hw1⟩; have d1 : Below w.heap.size w W1 := (by rw [hw1]; exact (by repeat (first | assumption | exact Below.refl _ _ | (refine Below.setCell ?_ (by first | omega | (simp; done) | (simp; omega)) _) | apply below_drewN | apply Below.drew | (refine Below.alloc ?_ (by first | omega | (simp; done) | (simp; omega)) _)))); clear hw1; have RB := Lib.hid ((RA.out.below d1).mono d1.size); rw [HC.out]))
      go_ret3
      exact ⟨none, 0, rfl, d1, rfl, fun h => absurd h (by simp)⟩

end Go.Proofs.Ythjcpgabdlfojaa
