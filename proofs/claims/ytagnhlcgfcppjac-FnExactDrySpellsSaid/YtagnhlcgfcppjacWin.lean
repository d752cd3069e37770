/- Windows of a row: what they read; the model's sums of windows. -/
import Derived.Test.YtagnhlcgfcppjacRainP
import Derived.Test.YtagnhlcgfcppjacSumN
import Derived.Test.YtagnhlcgfcppjacOwnS
namespace Go.Proofs.Ytagnhlcgfcppjac
open Go.RowKit

def winL (xs : List Int) (d i : Nat) : List Int := (xs.drop i).take d
def winS (xs : List Int) (d i : Nat) : Int := sumN (winL xs d i) d
theorem winL_at (xs : List Int) (d i j : Nat) (h : j < d) : (winL xs d i).getD j 0 = xs.getD (i + j) 0 := by
  unfold winL
  rw [getD_take_lt _ _ _ h]
  simp [List.getD_eq_getElem?_getD, List.getElem?_drop]
theorem sumN_win (xs : List Int) (d i : Nat) : ∀ k, k ≤ d → sumN (winL xs d i) k = sumAt xs i k := by
  intro k
  induction k with
  | zero => intro _; rfl
  | succ k ih =>
    intro hk
    simp only [sumN, sumAt]
    rw [ih (by omega), winL_at xs d i k (by omega)]
theorem Rd.win {w : World} {B b o n d i : Nat} {xs : List Int} (h : Rd w B (some ⟨b, o, none⟩) n xs) (hi : i + d ≤ n) : Rd w B (some ⟨b, o + i, none⟩) d (winL xs d i) := by
  refine ⟨by unfold winL; rw [List.length_take, List.length_drop, h.1]; omega, fun h0 => ?_⟩
  obtain ⟨b', off, e, hB, hc⟩ := h.2 (by omega)
  injection e with e
  injection e with e1 e2
  subst e1
  subst e2
  refine ⟨b, o + i, rfl, hB, fun j hj => ?_⟩
  rw [winL_at xs d i j hj, show o + i + j = o + (i + j) by omega]
  exact hc (i + j) (by omega)
theorem win_bd {n : Nat} {xs : List Int} (h : RainOk n xs) {d i : Nat} (hi : i + d ≤ n) : ∀ j, j < d → -3000 ≤ (winL xs d i).getD j 0 ∧ (winL xs d i).getD j 0 ≤ 3000 := by
  intro j hj
  rw [winL_at xs d i j hj]
  have := h.1 (i + j) (by omega)
  unfold isRn at this
  omega
theorem winS_bd {n : Nat} {xs : List Int} (h : RainOk n xs) {d i : Nat} (hi : i + d ≤ n) : -360000 ≤ winS xs d i ∧ winS xs d i ≤ 360000 := by
  have h1 := sumN_bdd d (winL xs d i) (win_bd h hi) d (Nat.le_refl _)
  have h2 := h.2.2
  unfold winS
  omega
def rsP (a1 : Int) : Prop := 1 ≤ a1 ∧ a1 ≤ 120
instance (a1 : Int) : Decidable (rsP a1) := by unfold rsP; exact inferInstance

theorem l06Code_t (A : Option Addr) (n c : Nat) (xs : List Int) (a1 : Int) (w : World) (hn : n ≤ 1048576) (ha : Rd w w.heap.size A n xs) :
    Calls Try.prog 63 #[.slice A n c, .int .i64 a1] w fun e w' => e = .returned (.int .i64 (rcode n xs (rsP a1))) ∧ w = w' := by
  have HA := Lib.hid ha
  clear ha
  by_cases hv : RainOk n xs
  · have HV := Lib.hid hv
    by_cases hp : 1 ≤ a1 ∧ a1 ≤ 120
    · rw [rcode_ok hv (show rsP a1 from hp)]
      clear hv
      go_enter Try.func63, Try.ntmps63
      go_wp2_with (first | (go_at_call 61; refine (l06Ok_any _ _ _ xs _ hn HA.out true ⟨fun _ => HV.out, fun _ => rfl⟩).mono ?_; rintro e1 w1 ⟨rfl, rfl⟩) | (go_at_call 52; first | (refine (in_t _ _ _ _ (by omega)).mono ?_; rintro e w' ⟨rfl, rfl⟩) | (refine (in_f _ _ _ _ (by omega)).mono ?_; rintro e w' ⟨rfl, rfl⟩)))
      go_ret
      exact ⟨rfl, rfl⟩
    · rw [rcode_no hv (show ¬ rsP a1 from hp)]
      have hp' : a1 < 1 ∨ 120 < a1 := by omega
      clear hv hp
      go_enter Try.func63, Try.ntmps63
      go_wp2_with (first | (go_at_call 61; refine (l06Ok_any _ _ _ xs _ hn HA.out true ⟨fun _ => HV.out, fun _ => rfl⟩).mono ?_; rintro e1 w1 ⟨rfl, rfl⟩) | (go_at_call 52; first | (refine (in_t _ _ _ _ (by omega)).mono ?_; rintro e w' ⟨rfl, rfl⟩) | (refine (in_f _ _ _ _ (by omega)).mono ?_; rintro e w' ⟨rfl, rfl⟩)))
      go_ret
      exact ⟨rfl, rfl⟩
  · rw [rcode_bad hv]
    have HV := Lib.hid hv
    clear hv
    go_enter Try.func63, Try.ntmps63
    go_wp2_with (first | (go_at_call 61; refine (l06Ok_any _ _ _ xs _ hn HA.out false ⟨fun h => by simp at h, fun h => absurd h HV.out⟩).mono ?_; rintro e1 w1 ⟨rfl, rfl⟩))
    go_ret
    exact ⟨rfl, rfl⟩

set_option maxHeartbeats 800000 in
theorem l06Sums_t (b o n c d : Nat) (xs : List Int) (w : World) (hd : 1 ≤ d) (hd2 : d ≤ n) (hc : n ≤ c) (hok : RainOk n xs) (ha : Rd w w.heap.size (some ⟨b, o, none⟩) n xs) :
    Calls Try.prog 64 #[.slice (some ⟨b, o, none⟩) n c, .int .i64 (d : Int)] w fun e w' => ∃ B dB, e = .returned (.slice B (n - d + 1) dB) ∧ Below w.heap.size w w' ∧ Wr w' w.heap.size B (n - d + 1) (rowOf (winS xs d) (n - d + 1)) := by
  have HA := Lib.hid ha
  have HV := Lib.hid hok
  have h120 := hok.2.2
  clear ha hok
  go_enter Try.func64, Try.ntmps64
  go_wp2
  go_loopw [5, 6] (fun v i wr => ∃ q : Nat, q ≤ n - d + 1 ∧ i = .int .i64 (q : Int) ∧ Below w.heap.size w wr ∧ w.heap.size ≤ wr.heap.size ∧ wr.ownsRow w.heap.size 2 1 v q ((rowOf (winS xs d) q).map (Value.int .i64))) (fun _ i _ => n - d + 1 - (intOf i).toNat)
  case atStart => exact ⟨0, by omega, rfl, (by repeat (first | assumption | exact Below.refl _ _ | (refine Below.setCell ?_ (by first | omega | (simp; done) | (simp; omega)) _) | apply below_drewN | apply Below.drew | (refine Below.alloc ?_ (by first | omega | (simp; done) | (simp; omega)) _))), by simp, owns_made rfl (Nat.le_refl _)⟩
  case round =>
    obtain ⟨q, hq, rfl, hb, hz, hown⟩ := hrel
    by_cases hlt : q < n - d + 1
    · have i1 : (q : Int) + (d : Int) ≤ (n : Int) := by omega
      have i2 : (q : Int) + (d : Int) ≤ (c : Int) := by omega
      have i3 : q + d ≤ c := by omega
      have HW := Lib.hid (((HA.out.below hb).mono hz).win (show q + d ≤ n by omega))
      have HBD := Lib.hid (win_bd HV.out (show q + d ≤ n by omega))
      have HS := Lib.hid (rowOf_succ (winS xs d) q)
      have HWS := Lib.hid (show winS xs d q = sumN (winL xs d q) d from rfl)
      go_wp2_with (first | (go_at_call 58; refine (spec_sumB (some ⟨b, o + q, none⟩) d (c - q) (winL xs d q) _ (by omega) HW.out HBD.out).mono ?_; rintro e w' ⟨rfl, rfl⟩) | (at_builtin; refine wpl_app1 rfl _ _ rfl _ _ _ _ _ _ rfl (by exact hown) rfl (by omega) (by exact hz) ?_; intro v1 w1 hown1 hb1 hz1))
      go_roundw
      case rel => exact ⟨q + 1, by omega, by go_num, hb.trans hb1, Nat.le_trans hz hz1, by rw [HS.out, HWS.out]; simpa using hown1⟩
      case measure => simp [intOf]; omega
    · obtain rfl : q = n - d + 1 := by omega
      have i1 : ¬ ((n - d + 1 : Nat) : Int) + (d : Int) ≤ (n : Int) := by omega
      go_wp2
      obtain ⟨B, d', rfl, hw⟩ := own_wr hown
      go_ret
      exact ⟨B, ⟨d', rfl⟩, hb, hw⟩

end Go.Proofs.Ytagnhlcgfcppjac
