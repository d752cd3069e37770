/- The wettest window; the heads hold (ka0 : la0 ≤ ca0). -/
import Derived.Test.YtagnhlcgfcppjacCRainSums
import Derived.Test.YtagnhlcgfcppjacMax
namespace Go.Proofs.Ytagnhlcgfcppjac
open Go.RowKit

def r0_WettestDays (xa0 : List Int) (a1 : Int) : Int := if rsOk xa0 a1 then (bstN (r0_RainSums xa0 a1) (xa0.length - a1.toNat) : Int) else 0
def r1_WettestDays (xa0 : List Int) (a1 : Int) : Int := if rsOk xa0 a1 then mxN (r0_RainSums xa0 a1) (xa0.length - a1.toNat) else 0
def r2_WettestDays (xa0 : List Int) (a1 : Int) : Int := r1_RainSums xa0 a1
theorem sums_code {xa0 : List Int} {a1 : Int} (h : ¬ rsOk xa0 a1) : r0_RainSums xa0 a1 = [] ∧ (r1_RainSums xa0 a1 != 0) = true := by
  refine ⟨if_neg h, ?_⟩
  unfold r1_RainSums
  by_cases h1 : RainOk xa0.length xa0 ∧ rsP a1
  · rw [if_pos h1, if_neg (fun g => h ⟨h1, g⟩)]; rfl
  · rw [if_neg h1]; exact rcode_ne h1
theorem sums_ok {xa0 : List Int} {a1 : Int} (h : rsOk xa0 a1) : (r0_RainSums xa0 a1).length = xa0.length - a1.toNat + 1 ∧ r1_RainSums xa0 a1 = 0 := by
  refine ⟨by unfold r0_RainSums; rw [if_pos h, rowOf_len], ?_⟩
  unfold r1_RainSums
  rw [if_pos h.1, if_pos h.2]

set_option maxHeartbeats 800000 in
theorem specC_WettestDays (a0 : Option Addr) (la0 ca0 : Nat) (xa0 : List Int) (a1 : Int) (w : World) (ha0 : la0 ≤ 1048576) (ra0 : Rd w w.heap.size a0 la0 xa0) (fa0 : Wf xa0) (ha1 : (Lit.int .i64 a1).wf = true) (ka0 : la0 ≤ ca0) :
    Calls Try.prog 30 #[.slice a0 la0 ca0, .int .i64 a1] w fun e w' => e = .returned (.tuple #[.int .i64 (r0_WettestDays xa0 a1), .int .i64 (r1_WettestDays xa0 a1), .int .i64 (r2_WettestDays xa0 a1)]) ∧ Below w.heap.size w w' := by
  have hC := specC_RainSums a0 la0 ca0 xa0 a1 w ha0 ra0 fa0 ha1 ka0
  have HC := Lib.hid hC
  clear hC ra0
  by_cases h : rsOk xa0 a1
  · have e0 : r0_WettestDays xa0 a1 = (bstN (r0_RainSums xa0 a1) (xa0.length - a1.toNat) : Int) := if_pos h
    have e1 : r1_WettestDays xa0 a1 = mxN (r0_RainSums xa0 a1) (xa0.length - a1.toNat) := if_pos h
    obtain ⟨hl, hk⟩ := sums_ok h
    have e2 : r2_WettestDays xa0 a1 = 0 := hk
    rw [e0, e1, e2]
    have h120 := h.1.1.2.2
    rw [hl, hk] at HC
    obtain ⟨m, hm⟩ : ∃ m, m = xa0.length - a1.toNat := ⟨_, rfl⟩
    rw [← hm] at HC hl ⊢
    have hm2 : m ≤ 120 := by omega
    generalize r0_RainSums xa0 a1 = S at *
    have HBA := Lib.hid (bst_all S)
    clear e0 e1 e2 hk h hm h120
    go_enter Try.func30, Try.ntmps30
    go_wp2_with (go_at_call 28; refine HC.out.mono ?_; rintro e1 w1 ⟨B, dB, rfl, b1, x1⟩; have D1 := Lib.hid b1; have RX := Lib.hid x1.rd; clear b1 x1)
    obtain ⟨b, o, rfl, hbB, hc⟩ := RX.out.2 (by omega)
    have HCC := Lib.hid hc
    clear hc
    go_loopw [9, 10] (fun be i wr => ∃ k : Nat, k ≤ m ∧ i = .int .i64 ((k + 1 : Nat) : Int) ∧ be = .int .i64 (bstN S k : Int) ∧ Below w1.heap.size w1 wr) (fun _ i _ => m + 1 - (intOf i).toNat)
    case atStart => exact ⟨0, by omega, rfl, rfl, Below.refl _ _⟩
    case round =>
      obtain ⟨k, hk, rfl, rfl, hb⟩ := hrel
      obtain ⟨p1, p2, p3, p4⟩ := HBA.out k
      have HS := Lib.hid (show bstN S (k + 1) = if S.getD (bstN S k) 0 < S.getD (k + 1) 0 then k + 1 else bstN S k from rfl)
      have c2 := (hb.cell (p := ⟨b, o + bstN S k, none⟩) hbB).trans (HCC.out (bstN S k) (by omega))
      by_cases hlt : k + 1 < m + 1
      · have c1 := (hb.cell (p := ⟨b, o + (k + 1), none⟩) hbB).trans (HCC.out (k + 1) hlt)
        have i1 : ((k + 1 : Nat) : Int) < ((m + 1 : Nat) : Int) := by omega
        have i2 : bstN S k < m + 1 := by omega
        clear p2 p3 p4
        generalize hbk : bstN S k = q at *
        by_cases hm : S.getD q 0 < S.getD (k + 1) 0
        · rw [if_pos hm] at HS
          generalize S.getD q 0 = u at *
          generalize S.getD (k + 1) 0 = v at *
          go_wp2
          go_quiet (fail)
          go_wp2
          go_roundw
          case rel => exact ⟨k + 1, by omega, by go_num, by rw [HS.out], below_drewN hb _⟩
          case measure => simp [intOf]; omega
        · rw [if_neg hm] at HS
          generalize S.getD q 0 = u at *
          generalize S.getD (k + 1) 0 = v at *
          go_wp2
          go_quiet (fail)
          go_wp2
          go_roundw
          case rel => exact ⟨k + 1, by omega, by go_num, by rw [HS.out], below_drewN hb _⟩
          case measure => simp [intOf]; omega
      · obtain rfl : k = m := by omega
        have i1 : ¬ ((k + 1 : Nat) : Int) < ((k + 1 : Nat) : Int) := by omega
        have i2 : bstN S k < k + 1 := by omega
        rw [p2] at c2
        clear p2 p3 p4 HS
        generalize hq : bstN S k = q at *
        generalize hu : mxN S k = u at *
        have HQ := Lib.hid hq
        have HU := Lib.hid hu
        clear hq hu
        go_wp2
        go_quiet (fail)
        go_wp2
        go_ret3
        rw [HQ.out, HU.out]
        exact ⟨rfl, D1.out.trans ((below_drewN hb _).mono D1.out.size)⟩
  · have e0 : r0_WettestDays xa0 a1 = 0 := if_neg h
    have e1 : r1_WettestDays xa0 a1 = 0 := if_neg h
    obtain ⟨hl, hk⟩ := sums_code h
    rw [e0, e1, show r2_WettestDays xa0 a1 = r1_RainSums xa0 a1 from rfl]
    clear e0 e1 h
    generalize hr : r1_RainSums xa0 a1 = C at *
    rw [hl] at HC
    clear hr hl
    go_enter Try.func30, Try.ntmps30
    go_wp2_with (go_at_call 28; refine HC.out.mono ?_; rintro e1 w1 ⟨B, dB, rfl, b1, x1⟩; have D1 := Lib.hid b1; clear b1 x1)
    go_ret3
    exact ⟨rfl, D1.out⟩

set_option maxHeartbeats 800000 in
theorem implC_WettestDays (a0 : Option Addr) (la0 ca0 : Nat) (xa0 : List Int) (a1 : Int) (w : World) (ha0 : la0 ≤ 1048576) (ra0 : Rd w w.heap.size a0 la0 xa0) (fa0 : Wf xa0) (ha1 : (Lit.int .i64 a1).wf = true) (ka0 : la0 ≤ ca0) :
    Calls Try.prog 31 #[.slice a0 la0 ca0, .int .i64 a1] w fun e w' => e = .returned (.tuple #[.int .i64 (r0_WettestDays xa0 a1), .int .i64 (r1_WettestDays xa0 a1), .int .i64 (r2_WettestDays xa0 a1)]) ∧ Below w.heap.size w w' := by
  have hC := implC_RainSums a0 la0 ca0 xa0 a1 w ha0 ra0 fa0 ha1 ka0
  have HC := Lib.hid hC
  clear hC ra0
  by_cases h : rsOk xa0 a1
  · have e0 : r0_WettestDays xa0 a1 = (bstN (r0_RainSums xa0 a1) (xa0.length - a1.toNat) : Int) := if_pos h
    have e1 : r1_WettestDays xa0 a1 = mxN (r0_RainSums xa0 a1) (xa0.length - a1.toNat) := if_pos h
    obtain ⟨hl, hk⟩ := sums_ok h
    have e2 : r2_WettestDays xa0 a1 = 0 := hk
    rw [e0, e1, e2]
    have h120 := h.1.1.2.2
    rw [hl, hk] at HC
    obtain ⟨m, hm⟩ : ∃ m, m = xa0.length - a1.toNat := ⟨_, rfl⟩
    rw [← hm] at HC hl ⊢
    have hm2 : m ≤ 120 := by omega
    generalize r0_RainSums xa0 a1 = S at *
    have HBA := Lib.hid (bst_all S m)
    clear e0 e1 e2 hk h hm h120
    go_enter Try.func31, Try.ntmps31
    go_wp2_with (first | (go_at_call 29; refine HC.out.mono ?_; rintro e1 w1 ⟨B, dB, rfl, b1, x1⟩; have D1 := Lib.hid b1; have RX := Lib.hid x1.rd; clear b1 x1) | (go_at_call 67; refine (max_s B (m + 1) dB S _ (by omega) (by omega) RX.out).mono ?_; rintro e2 w2 ⟨rfl, rfl⟩; rw [Nat.add_sub_cancel]) | (go_at_call 68; refine (index_s B (m + 1) dB S _ (bstN S m) _ (by omega) (by have := HBA.out.1; omega) HBA.out.2.1 HBA.out.2.2.1 RX.out).mono ?_; rintro e3 w3 ⟨rfl, rfl⟩))
    go_ret3
    exact ⟨rfl, D1.out⟩
  · have e0 : r0_WettestDays xa0 a1 = 0 := if_neg h
    have e1 : r1_WettestDays xa0 a1 = 0 := if_neg h
    obtain ⟨hl, hk⟩ := sums_code h
    rw [e0, e1, show r2_WettestDays xa0 a1 = r1_RainSums xa0 a1 from rfl]
    clear e0 e1 h
    generalize hr : r1_RainSums xa0 a1 = C at *
    rw [hl] at HC
    clear hr hl
    go_enter Try.func31, Try.ntmps31
    go_wp2_with (go_at_call 29; refine HC.out.mono ?_; rintro e1 w1 ⟨B, dB, rfl, b1, x1⟩; have D1 := Lib.hid b1; clear b1 x1)
    go_ret3
    exact ⟨rfl, D1.out⟩

end Go.Proofs.Ytagnhlcgfcppjac
