/- Sorting by exchanges: plain mathematics; no function of the program in it. -/
import Derived.Test.YthfemghfkfmkdaaGreatDoorReg
namespace Go.Proofs.YthfemghfkfmkdaaGreatDoor
open Go.RowKit

def srt (xs : List Int) : List Int := xs.mergeSort fun x y => decide (x ≤ y)
theorem srt_perm (xs : List Int) : (srt xs).Perm xs := List.mergeSort_perm _ _
theorem srt_len (xs : List Int) : (srt xs).length = xs.length := (srt_perm xs).length_eq
theorem srt_sorted (xs : List Int) : (srt xs).Pairwise (· ≤ ·) := by
  have h := List.pairwise_mergeSort (le := fun x y : Int => decide (x ≤ y)) (by intro a b c; simp; omega) (by intro a b; simp; omega) xs
  exact h.imp (by intro a b; simp)
theorem srt_unique {l xs : List Int} (hp : l.Perm xs) (hs : l.Pairwise (· ≤ ·)) : l = srt xs :=
  (hp.trans (srt_perm xs).symm).eq_of_pairwise (by intro a b _ _ h1 h2; omega) hs (srt_sorted xs)

/-- the exchange of two neighbours -/
def xch (l : List Int) (k : Nat) : List Int := (l.set k (l.getD (k - 1) 0)).set (k - 1) (l.getD k 0)
theorem xch_len (l : List Int) (k : Nat) : (xch l k).length = l.length := by simp [xch]
theorem xch_at (l : List Int) (k : Nat) (h0 : 0 < k) (hk : k < l.length) (j : Nat) : (xch l k).getD j 0 = if j = k - 1 then l.getD k 0 else if j = k then l.getD (k - 1) 0 else l.getD j 0 := by
  unfold xch
  rw [getD_set _ _ _ _ (by simp; omega), getD_set _ _ _ _ hk]
theorem xch_perm (l : List Int) (k : Nat) (h0 : 0 < k) (hk : k < l.length) : (xch l k).Perm l := by
  have h := Array.swap_perm (xs := l.toArray) (i := k) (j := k - 1) (by simpa using hk) (by simp; omega)
  have h2 := Array.perm_iff_toList_perm.1 h
  have e : (l.toArray.swap k (k - 1) (by simpa using hk) (by simp; omega)).toList = xch l k := by
    simp [Array.swap, xch, List.getD_eq_getElem?_getD, hk, show k - 1 < l.length by omega]
  rw [e] at h2
  simpa using h2
/-- sorted up to i, but for the element at k -/
def Near1 (l : List Int) (k i : Nat) : Prop := ∀ a b, a < b → b ≤ i → b ≠ k → l.getD a 0 ≤ l.getD b 0
theorem Near1.step {l : List Int} {k i : Nat} (h : Near1 l k i) (h0 : 0 < k) (hk : k < l.length) (hgt : l.getD k 0 < l.getD (k - 1) 0) (hki : k ≤ i) : Near1 (xch l k) (k - 1) i := by
  intro a b hab hb hne
  rw [xch_at l k h0 hk a, xch_at l k h0 hk b, if_neg hne]
  by_cases e1 : a = k - 1
  · rw [if_pos e1]
    by_cases e2 : b = k
    · rw [if_pos e2]; omega
    · rw [if_neg e2]
      exact h k b (by omega) hb e2
  · rw [if_neg e1]
    by_cases e3 : a = k
    · rw [if_pos e3, if_neg (by omega)]
      exact h (k - 1) b (by omega) hb (by omega)
    · rw [if_neg e3]
      by_cases e2 : b = k
      · rw [if_pos e2]
        exact h a (k - 1) (by omega) (by omega) (by omega)
      · rw [if_neg e2]
        exact h a b hab hb e2
def SortedTo (l : List Int) (i : Nat) : Prop := ∀ a b, a < b → b < i → l.getD a 0 ≤ l.getD b 0
theorem SortedTo.near {l : List Int} {i : Nat} (h : SortedTo l i) : Near1 l i i := fun a b hab hb hne => h a b hab (by omega)
theorem Near1.done {l : List Int} {k i : Nat} (h : Near1 l k i) (hk : k = 0 ∨ l.getD (k - 1) 0 ≤ l.getD k 0) (hki : k ≤ i) : SortedTo l (i + 1) := by
  intro a b hab hb
  by_cases e : b = k
  · rcases hk with hk | hk
    · omega
    · subst e
      by_cases e2 : a = b - 1
      · rw [e2]; exact hk
      · have := h a (b - 1) (by omega) (by omega) (by omega)
        omega
  · exact h a b hab (by omega) e
theorem SortedTo.all {l : List Int} (h : SortedTo l l.length) : l.Pairwise (· ≤ ·) := by
  rw [List.pairwise_iff_getElem]
  intro i j hi hj hij
  have := h i j hij hj
  simpa [List.getD_eq_getElem?_getD, hi, hj] using this

end Go.Proofs.YthfemghfkfmkdaaGreatDoor
