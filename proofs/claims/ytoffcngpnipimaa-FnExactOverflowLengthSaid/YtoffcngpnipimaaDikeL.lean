/- Dikes: lengths, the weakest section, the clay: of the model and of the program. -/
import Derived.Test.YtoffcngpnipimaaDikeC
import Derived.Test.YtoffcngpnipimaaOwnR
import Derived.Test.YtoffcngpnipimaaOwnS
import Derived.BigQuiet
namespace Go.Proofs.Ytoffcngpnipimaa
open Go.RowKit

/-- the length of any sections, as the machine reckons it -/
def lnW (xs : List RSection) : Nat → Int
  | 0 => 0
  | k + 1 => wrap64 (lnW xs k + (xs.getD k zSection).f0)
theorem lnW_ok {n : Nat} {xs : List RSection} (h : DkOk n xs) (k : Nat) (hk : k ≤ n) : lnW xs k = lenN xs k := by
  induction k with
  | zero => rfl
  | succ k ih =>
    have b := lenN_bd h (k + 1) hk
    show wrap64 (lnW xs k + (xs.getD k zSection).f0) = lenN xs k + (xs.getD k zSection).f0
    rw [ih (by omega)]
    have e : lenN xs (k + 1) = lenN xs k + (xs.getD k zSection).f0 := rfl
    have := h.2.2
    exact IntWalk.wrap64_in _ (by omega)

theorem wkF_lt (xs : List RSection) (k : Nat) (h : 0 < k) : wkF xs k < k := by
  obtain ⟨k, rfl⟩ : ∃ m, k = m + 1 := ⟨k - 1, by omega⟩
  exact (wkF_is xs k).1
theorem wkF_yes {xs : List RSection} {k : Nat} (h : (xs.getD k zSection).f1 < (xs.getD (wkF xs k) zSection).f1) : wkF xs (k + 1) = k := if_pos h
theorem wkF_no {xs : List RSection} {k : Nat} (h : ¬ (xs.getD k zSection).f1 < (xs.getD (wkF xs k) zSection).f1) : wkF xs (k + 1) = wkF xs k := if_neg h

theorem wkF_le (xs : List RSection) (k : Nat) : wkF xs k ≤ k := by
  rcases Nat.eq_zero_or_pos k with rfl | h
  · exact Nat.le_refl _
  · exact Nat.le_of_lt (wkF_lt xs k h)
theorem wkF_lt' (xs : List RSection) {k n : Nat} (hk : k ≤ n) (h0 : 0 < n) : wkF xs k < n := by
  rcases Nat.eq_zero_or_pos k with rfl | h
  · exact h0
  · have := wkF_lt xs k h; omega
end Go.Proofs.Ytoffcngpnipimaa
