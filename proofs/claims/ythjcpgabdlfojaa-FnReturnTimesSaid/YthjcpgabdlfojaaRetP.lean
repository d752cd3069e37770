/- Ranks and return times: what the law says of the plain functions. -/
import Derived.Test.YthjcpgabdlfojaaCRanksOf
import Derived.Test.YthjcpgabdlfojaaCReturnTime
namespace Go.Proofs.Ythjcpgabdlfojaa
open Go.RowKit

theorem cnt_mono (xs : List Int) {a b : Int} (h : a ≤ b) (k : Nat) : cntN xs b k ≤ cntN xs a k := by
  induction k with
  | zero => simp [cntN]
  | succ k ih =>
    simp only [cntN]
    by_cases h1 : b ≤ xs.getD k 0
    · rw [if_pos h1, if_pos (by omega)]; omega
    · rw [if_neg h1]; split <;> omega
theorem cnt_lt (xs : List Int) {a b : Int} {i : Nat} (h1 : a ≤ xs.getD i 0) (h2 : xs.getD i 0 < b) : ∀ k, i < k → cntN xs b k < cntN xs a k := by
  intro k
  induction k with
  | zero => intro h; omega
  | succ k ih =>
    intro hi
    have hm := cnt_mono xs (show a ≤ b by omega) k
    simp only [cntN]
    by_cases e : i = k
    · subst e
      rw [if_neg (by omega), if_pos h1]; omega
    · have := ih (by omega)
      by_cases h3 : b ≤ xs.getD k 0
      · rw [if_pos h3, if_pos (by omega)]; omega
      · rw [if_neg h3]; split <;> omega
theorem rk_iff (xs : List Int) {i k n : Nat} (hi : i < n) (hl : xs.length = n) : xs.getD k 0 < xs.getD i 0 ↔ rkF xs i < rkF xs k := by
  unfold rkF
  rw [hl]
  by_cases h : xs.getD k 0 < xs.getD i 0
  · have := cnt_lt xs (a := xs.getD k 0 + 1) (b := xs.getD i 0 + 1) (i := i) (by omega) (by omega) n hi
    exact ⟨fun _ => by omega, fun _ => h⟩
  · have := cnt_mono xs (show xs.getD i 0 + 1 ≤ xs.getD k 0 + 1 by omega) n
    exact ⟨fun g => absurd g h, fun g => by omega⟩
theorem rk_bd (xs : List Int) {i n : Nat} (hi : i < n) (hl : xs.length = n) : 1 ≤ rkF xs i ∧ rkF xs i ≤ (n : Int) := by
  unfold rkF
  rw [hl]
  have h1 := cntN_bd xs (xs.getD i 0 + 1) n
  have h2 := cntN_bd xs (xs.getD i 0) n
  have h3 := cnt_lt xs (a := xs.getD i 0) (b := xs.getD i 0 + 1) (i := i) (by omega) (by omega) n hi
  omega
/-- a fraction in lowest terms, of positive numbers -/
theorem frac_parts {num den : Int} (h1 : 1 ≤ num) (h2 : 1 ≤ den) : ∃ g : Int, 1 ≤ g ∧ fnum num den * g = num ∧ fden num den * g = den := by
  have hg := fgcd_pos num den h2
  have d1 : (fgcd num den : Int) ∣ num := by
    have : fgcd num den ∣ num.natAbs := Nat.gcd_dvd_left _ _
    exact Int.ofNat_dvd_left.2 this
  have d2 : (fgcd num den : Int) ∣ den := by
    have : fgcd num den ∣ den.toNat := Nat.gcd_dvd_right _ _
    have e : ((den.toNat : Nat) : Int) = den := by omega
    rw [← e]
    exact Int.natCast_dvd_natCast.2 this
  refine ⟨(fgcd num den : Int), hg, ?_, ?_⟩
  · rw [← fnum_pos num den (by omega)]; exact Int.ediv_mul_cancel d1
  · exact Int.ediv_mul_cancel d2
theorem part_bd {p g x : Int} (hg : 1 ≤ g) (hx : 1 ≤ x) (e : p * g = x) : 1 ≤ p ∧ p ≤ x := by
  have hp : 1 ≤ p := by
    by_cases h : p ≤ 0
    · have := Int.mul_nonneg (show 0 ≤ -p by omega) (show 0 ≤ g by omega)
      rw [Int.neg_mul] at this
      omega
    · omega
  refine ⟨hp, ?_⟩
  have := Int.mul_le_mul_of_nonneg_left hg (show 0 ≤ p by omega)
  omega
/-- what the law says of one fraction -/
theorem ret_one {n m : Int} (h1 : 1 ≤ m) (h2 : m ≤ n) (h3 : n ≤ 16) : (1 ≤ fden (n + 1) m ∧ fden (n + 1) m ≤ 200) ∧ (1 ≤ fnum (n + 1) m ∧ fnum (n + 1) m ≤ 200) ∧ fden (n + 1) m < fnum (n + 1) m := by
  obtain ⟨g, hg, e1, e2⟩ := frac_parts (num := n + 1) (den := m) (by omega) h1
  have b1 := part_bd hg (by omega) e1
  have b2 := part_bd hg h1 e2
  refine ⟨by omega, by omega, ?_⟩
  by_cases h : fden (n + 1) m < fnum (n + 1) m
  · exact h
  · have := Int.mul_le_mul_of_nonneg_right (show fnum (n + 1) m ≤ fden (n + 1) m by omega) (show 0 ≤ g by omega)
    omega
/-- .. and of two -/
theorem ret_two {n m k : Int} (h1 : 1 ≤ k) (h2 : k ≤ m) (h3 : m ≤ n) : fnum (n + 1) m * fden (n + 1) k ≤ fnum (n + 1) k * fden (n + 1) m := by
  obtain ⟨g, hg, e1, e2⟩ := frac_parts (num := n + 1) (den := m) (by omega) (by omega)
  obtain ⟨f, hf, e3, e4⟩ := frac_parts (num := n + 1) (den := k) (by omega) h1
  generalize fnum (n + 1) m = p at *
  generalize fden (n + 1) m = q at *
  generalize fnum (n + 1) k = r at *
  generalize fden (n + 1) k = s at *
  by_cases h : p * s ≤ r * q
  · exact h
  · exfalso
    have hgf : 0 < g * f := Int.mul_pos (by omega) (by omega)
    have a := Int.mul_lt_mul_of_pos_right (show r * q < p * s by omega) hgf
    have x1 : r * q * (g * f) = (r * f) * (q * g) := by ac_rfl
    have x2 : p * s * (g * f) = (p * g) * (s * f) := by ac_rfl
    rw [x1, x2, e1, e2, e3, e4] at a
    have b := Int.mul_le_mul_of_nonneg_left h2 (show 0 ≤ n + 1 by omega)
    omega

end Go.Proofs.Ythjcpgabdlfojaa
