/- Windows: what the law says of the plain functions. -/
import Derived.Test.YthfemghfkfmkdaaDoorRnd
import Derived.Test.YthfemghfkfmkdaaDoorCWettestDays
namespace Go.Proofs.YthfemghfkfmkdaaDoor
open Go.RowKit

theorem winS_sum (xs : List Int) (d i : Nat) : winS xs d i = sumAt xs i d := sumN_win xs d i d (Nat.le_refl _)
theorem sumAt_front (xs : List Int) (i : Nat) : ∀ k, sumAt xs i (k + 1) = xs.getD i 0 + sumAt xs (i + 1) k := by
  intro k
  induction k with
  | zero => simp [sumAt]
  | succ k ih =>
    rw [sumAt, ih]
    simp only [sumAt]
    rw [show i + (k + 1) = i + 1 + k by omega]
    omega
/-- a longer window has no lesser sum -/
theorem win_longer {m d : Nat} {xs : List Int} (h : RnD m xs) (hd : 1 ≤ d) (hdm : d + 1 ≤ m) :
    mxN (rowOf (winS xs d) (m - d + 1)) (m - d) ≤ mxN (rowOf (winS xs (d + 1)) (m - (d + 1) + 1)) (m - (d + 1)) := by
  obtain ⟨b1, b2, _, _⟩ := bst_all (rowOf (winS xs d) (m - d + 1)) (m - d)
  obtain ⟨_, _, _, c4⟩ := bst_all (rowOf (winS xs (d + 1)) (m - (d + 1) + 1)) (m - (d + 1))
  generalize bstN (rowOf (winS xs d) (m - d + 1)) (m - d) = p at *
  rw [← b2, rowOf_at _ _ _ (by omega), winS_sum]
  by_cases hp : p = m - d
  · have h1 := c4 (p - 1) (by omega)
    rw [rowOf_at _ _ _ (by omega), winS_sum, sumAt_front] at h1
    rw [show p - 1 + 1 = p by omega] at h1
    have h2 := h.1 (p - 1) (by omega)
    omega
  · have h1 := c4 p (by omega)
    rw [rowOf_at _ _ _ (by omega), winS_sum, sumAt] at h1
    have h2 := h.1 (p + d) (by omega)
    omega
theorem wet_d (b o m c d : Nat) (xs : List Int) (w : World) (hd : 1 ≤ d) (hd2 : d ≤ 17) (hmc : m ≤ c) (rn : RnD m xs) (ra : Rd w w.heap.size (some ⟨b, o, none⟩) m xs) :
    Calls Tryd.prog 8 #[.slice (some ⟨b, o, none⟩) m c, .int .i64 (d : Int)] w fun e w' => ∃ at' mx z : Int, e = .returned (.tuple #[.int .i64 at', .int .i64 mx, .int .i64 z]) ∧ Below w.heap.size w w' ∧
      (d ≤ m → at' = (bstN (rowOf (winS xs d) (m - d + 1)) (m - d) : Int) ∧ mx = mxN (rowOf (winS xs d) (m - d + 1)) (m - d) ∧ z = 0) ∧ (¬ d ≤ m → z = 3) := by
  have hm := rn.2.2
  have hok : RainOk xs.length xs := by rw [ra.1]; exact rnd_ok rn
  have hp : rsP (d : Int) := by unfold rsP; omega
  refine (implC_WettestDays (some ⟨b, o, none⟩) m c xs (d : Int) w (by omega) ra (rnd_wf rn ra.1) (WalkArith.wf_i64 (by omega)) hmc).mono ?_
  rintro e w' ⟨rfl, hb⟩
  refine ⟨_, _, _, rfl, hb, fun h => ?_, fun h => ?_⟩
  · have ok : rsOk xs (d : Int) := ⟨⟨hok, hp⟩, by rw [ra.1]; omega⟩
    have e0 : r0_RainSums xs (d : Int) = rowOf (winS xs d) (m - d + 1) := by unfold r0_RainSums; rw [if_pos ok, ra.1, Int.toNat_natCast]
    refine ⟨?_, ?_, ?_⟩
    · unfold r0_WettestDays; rw [if_pos ok, e0, ra.1, Int.toNat_natCast]
    · unfold r1_WettestDays; rw [if_pos ok, e0, ra.1, Int.toNat_natCast]
    · exact (sums_ok ok).2
  · show r1_RainSums xs (d : Int) = 3
    unfold r1_RainSums
    rw [if_pos ⟨hok, hp⟩, if_neg (by rw [ra.1]; omega)]

end Go.Proofs.YthfemghfkfmkdaaDoor
