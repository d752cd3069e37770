import Derived.Test.YthjcpgabdlfojaaRainN
import Derived.Test.YthjcpgabdlfojaaOwnS
namespace Go.Proofs.Ythjcpgabdlfojaa
open Go.RowKit

def rkF (xs : List Int) (j : Nat) : Int := cntN xs (xs.getD j 0 + 1) xs.length + 1
def r0_RanksOf (xa0 : List Int) : List Int := if RainOk xa0.length xa0 then rowOf (rkF xa0) xa0.length else []
def r1_RanksOf (xa0 : List Int) : Int := rcode xa0.length xa0 True
theorem len_r0_RanksOf (xa0 : List Int) : (r0_RanksOf xa0).length ≤ 1048576 := by
  unfold r0_RanksOf
  split
  · rename_i h
    have := h.2.2
    rw [rowOf_len]
    omega
  · simp

set_option maxHeartbeats 1600000 in
theorem implC_RanksOf (a0 : Option Addr) (la0 ca0 : Nat) (xa0 : List Int) (w : World) (ha0 : la0 ≤ 1048576) (ra0 : Rd w w.heap.size a0 la0 xa0) (fa0 : Wf xa0) :
    Calls Try.prog 14 #[.slice a0 la0 ca0] w fun e w' => ∃ B0 dB0, e = .returned (.tuple #[.slice B0 (r0_RanksOf xa0).length dB0, .int .i64 (r1_RanksOf xa0)]) ∧ Below w.heap.size w w' ∧ Wr w' w.heap.size B0 (r0_RanksOf xa0).length (r0_RanksOf xa0) := by
  have hln := ra0.1
  have RA := Lib.hid ra0
  clear ra0
  by_cases h : RainOk la0 xa0
  · have e0 : r0_RanksOf xa0 = rowOf (rkF xa0) la0 := by unfold r0_RanksOf; rw [hln, if_pos h]
    have e1 : r1_RanksOf xa0 = 0 := by unfold r1_RanksOf; rw [hln]; exact rcode_ok h trivial
    rw [e0, e1, rowOf_len]
    have HR := Lib.hid (show rcode la0 xa0 True = 0 from rcode_ok h trivial)
    have HV := Lib.hid h
    have h120 := h.2.2
    have h1 := h.2.1
    clear h e0 e1
    obtain ⟨i0, hi, hz0, hz1, hz2⟩ := info_parts info_i64
    have hmk := fun W => run_make_rowN (P := Try.prog) 24 2 i0 (.int .i64 0) Try.underlying24 hi hz0 .i64 .i64 la0 la0 (Nat.le_refl _) (by rw [hz2]; omega) (by omega) W
    rw [hz1] at hmk
    clear hi hz0 hz1 hz2
    go_enter Try.func14, Try.ntmps14
    go_wp2_with (first | (go_at_call 18; refine (rainCode_t _ _ _ xa0 _ True true ha0 RA.out (by simp)).mono ?_; rintro e1 W1 ⟨rfl, hw1⟩; have d1 : Below w.heap.size w W1 := (by rw [hw1]; exact (by repeat (first | assumption | exact Below.refl _ _ | (refine Below.setCell ?_ (by first | omega | (simp; done) | (simp; omega)) _) | apply below_drewN | apply Below.drew | (refine Below.alloc ?_ (by first | omega | (simp; done) | (simp; omega)) _)))); clear hw1; have RB := Lib.hid ((RA.out.below d1).mono d1.size); rw [HR.out]))
    go_loopw [6, 7, 18] (fun _ _ i wr => ∃ k : Nat, k ≤ la0 ∧ i = .int .i64 (k : Int) ∧ Below W1.heap.size W1 wr ∧ W1.heap.size < wr.heap.size ∧ Half la0 W1.heap.size 0 (rkF xa0) (List.replicate la0 0) k wr) (fun _ _ i _ => la0 - (intOf i).toNat)
    case atStart => exact ⟨0, by omega, rfl, (Below.refl _ _).alloc (Nat.le_refl _) _, by simp, Half.new _ _ _ _ _ (by simp)⟩
    case round =>
      obtain ⟨k, hk, rfl, hb, hs, hr⟩ := hrel
      by_cases hlt : k < la0
      · obtain ⟨b, o, rfl, hbB, hc⟩ := RB.out.2 (by omega)
        obtain ⟨c1, c2⟩ := hr k hlt
        rw [if_neg (by omega)] at c1
        simp only [Nat.zero_add] at c1 c2
        have c3 := (hb.cell (p := ⟨b, o + k, none⟩) hbB).trans (hc k hlt)
        clear hc
        have hg := HV.out.1 k hlt
        have HK := Lib.hid (show rkF xa0 k = cntN xa0 (xa0.getD k 0 + 1) la0 + 1 by unfold rkF; rw [hln])
        obtain ⟨n1, n2⟩ := cntN_bd xa0 (xa0.getD k 0 + 1) la0
        obtain ⟨x, hx⟩ : ∃ x, x = xa0.getD k 0 := ⟨_, rfl⟩
        rw [← hx] at c3 hg HK n1 n2
        clear hx
        obtain ⟨g1, g2⟩ := hg
        go_wp2_with (first | (go_at_call 23; refine (countFrom_t _ _ _ xa0 (x + 1) _ ha0 ((RB.out.below hb).mono (by omega))).mono ?_; rintro e w' ⟨rfl, rfl⟩))
        go_roundw
        case rel => exact ⟨k + 1, by omega, by go_num, hb.setCell (Nat.le_refl _) _, by simpa using hs, by have := hr.step (cntN xa0 (x + 1) la0 + 1) HK.out.symm; simpa only [Nat.zero_add] using this⟩
        case measure => simp [intOf]; omega
      · obtain rfl : k = la0 := by omega
        go_wp2
        go_ret2
        exact ⟨_, _, rfl, d1.trans (hb.mono d1.size), hr.done (rowOf_len _ _) (fun j hj => rowOf_at _ _ _ hj) d1.size hs⟩
  · have e0 : r0_RanksOf xa0 = [] := by unfold r0_RanksOf; rw [hln, if_neg h]
    have e1 : r1_RanksOf xa0 = 1 := by unfold r1_RanksOf; rw [hln]; exact rcode_bad h
    rw [e0, e1]
    have HR := Lib.hid (show rcode la0 xa0 True = 1 from rcode_bad h)
    clear h e0 e1
    go_enter Try.func14, Try.ntmps14
    go_wp2_with (first | (go_at_call 18; refine (rainCode_t _ _ _ xa0 _ True true ha0 RA.out (by simp)).mono ?_; rintro e1 W1 ⟨rfl, hw1⟩; have d1 : Below w.heap.size w W1 := (by rw [hw1]; exact (by repeat (first | assumption | exact Below.refl _ _ | (refine Below.setCell ?_ (by first | omega | (simp; done) | (simp; omega)) _) | apply below_drewN | apply Below.drew | (refine Below.alloc ?_ (by first | omega | (simp; done) | (simp; omega)) _)))); clear hw1; have RB := Lib.hid ((RA.out.below d1).mono d1.size); rw [HR.out]))
    go_ret2
    exact ⟨none, 0, rfl, d1, rfl, fun h => absurd h (by simp)⟩

end Go.Proofs.Ythjcpgabdlfojaa
