/- The water of days: plain mathematics. -/
import Derived.Test.YtfpfmfhhcgafcabDoorRWater
namespace Go.Proofs.YtfpfmfhhcgafcabDoor
open Go.RowKit

def waOk (a b c d e : Int) : Prop := (0 ≤ a ∧ a ≤ 10000000) ∧ (0 ≤ b ∧ b ≤ 10000000) ∧ (0 ≤ c ∧ c ≤ 10000000) ∧ (0 ≤ d ∧ d ≤ 10000000) ∧ (0 ≤ e ∧ e ≤ 10000000)
instance (a b c d e : Int) : Decidable (waOk a b c d e) := by unfold waOk; exact inferInstance
def waR (x : RWater) : Prop := waOk x.f0 x.f1 x.f2 x.f3 x.f4
instance (x : RWater) : Decidable (waR x) := by unfold waR; exact inferInstance
/-- by how much the water grows in a day -/
def netW (x : RWater) : Int := x.f0 + x.f1 - x.f2 - x.f3 - x.f4
theorem netW_bd {x : RWater} (h : waR x) : -30000000 ≤ netW x ∧ netW x ≤ 20000000 := by
  obtain ⟨h0, h1, h2, h3, h4⟩ := h
  unfold netW
  omega
def waAll (n : Nat) (xs : List RWater) : Prop := ∀ j, j < n → waR (xs.getD j zWater)
instance (n : Nat) (xs : List RWater) : Decidable (waAll n xs) := by unfold waAll; exact inferInstance
def waList (n : Nat) (xs : List RWater) : Prop := waAll n xs ∧ n ≤ 100
instance (n : Nat) (xs : List RWater) : Decidable (waList n xs) := by unfold waList; exact inferInstance
/-- the volume after k days -/
def volW (s : Int) (xs : List RWater) : Nat → Int
  | 0 => s
  | k + 1 => volW s xs k + netW (xs.getD k zWater)
theorem volW_bd {n : Nat} {xs : List RWater} (h : waAll n xs) (s : Int) (k : Nat) (hk : k ≤ n) : -(30000000 * (k : Int)) ≤ volW s xs k - s ∧ volW s xs k - s ≤ 20000000 * (k : Int) := by
  induction k with
  | zero => simp [volW]
  | succ k ih =>
    have h1 := ih (by omega)
    have h2 := netW_bd (h k (by omega))
    simp only [volW]
    omega
/-- the sum of one amount of k days -/
def amtW (f : RWater → Int) (xs : List RWater) : Nat → Int
  | 0 => 0
  | k + 1 => amtW f xs k + f (xs.getD k zWater)
theorem amtW_bd {n : Nat} {xs : List RWater} (f : RWater → Int) (h : ∀ j, j < n → 0 ≤ f (xs.getD j zWater) ∧ f (xs.getD j zWater) ≤ 10000000) (k : Nat) (hk : k ≤ n) : 0 ≤ amtW f xs k ∧ amtW f xs k ≤ 10000000 * (k : Int) := by
  induction k with
  | zero => simp [amtW]
  | succ k ih =>
    have h1 := ih (by omega)
    have h2 := h k (by omega)
    simp only [amtW]
    omega
/-- the sums of k days -/
def sumW (xs : List RWater) (k : Nat) : RWater := ⟨amtW RWater.f0 xs k, amtW RWater.f1 xs k, amtW RWater.f2 xs k, amtW RWater.f3 xs k, amtW RWater.f4 xs k⟩
theorem sumW_bd {n : Nat} {xs : List RWater} (h : waAll n xs) (k : Nat) (hk : k ≤ n) : (0 ≤ (sumW xs k).f0 ∧ (sumW xs k).f0 ≤ 10000000 * (k : Int)) ∧ (0 ≤ (sumW xs k).f1 ∧ (sumW xs k).f1 ≤ 10000000 * (k : Int)) ∧ (0 ≤ (sumW xs k).f2 ∧ (sumW xs k).f2 ≤ 10000000 * (k : Int)) ∧ (0 ≤ (sumW xs k).f3 ∧ (sumW xs k).f3 ≤ 10000000 * (k : Int)) ∧ (0 ≤ (sumW xs k).f4 ∧ (sumW xs k).f4 ≤ 10000000 * (k : Int)) :=
  ⟨amtW_bd _ (fun j hj => (h j hj).1) k hk, amtW_bd _ (fun j hj => (h j hj).2.1) k hk, amtW_bd _ (fun j hj => (h j hj).2.2.1) k hk, amtW_bd _ (fun j hj => (h j hj).2.2.2.1) k hk, amtW_bd _ (fun j hj => (h j hj).2.2.2.2) k hk⟩
theorem volW_sum (s : Int) (xs : List RWater) (k : Nat) : volW s xs k = s + netW (sumW xs k) := by
  induction k with
  | zero => simp [volW, netW, sumW, amtW]
  | succ k ih => simp only [volW, ih, netW, sumW, amtW]; omega
/-- the code of days and a condition -/
def wcode (n : Nat) (xs : List RWater) (P : Prop) [Decidable P] : Int := if waAll n xs then (if n ≤ 100 ∧ P then 0 else 2) else 1
theorem wcode_ok {n : Nat} {xs : List RWater} {P : Prop} [Decidable P] (h : waList n xs) (p : P) : wcode n xs P = 0 := by unfold wcode; rw [if_pos h.1, if_pos ⟨h.2, p⟩]
theorem wcode_bad {n : Nat} {xs : List RWater} {P : Prop} [Decidable P] (h : ¬ waAll n xs) : wcode n xs P = 1 := by unfold wcode; rw [if_neg h]
theorem wcode_rg {n : Nat} {xs : List RWater} {P : Prop} [Decidable P] (h : waAll n xs) (p : ¬ (n ≤ 100 ∧ P)) : wcode n xs P = 2 := by unfold wcode; rw [if_pos h, if_neg p]
theorem wcode_ne {n : Nat} {xs : List RWater} {P : Prop} [Decidable P] (h : ¬ (waList n xs ∧ P)) : (wcode n xs P != 0) = true := by
  unfold wcode
  by_cases h1 : waAll n xs
  · rw [if_pos h1, if_neg (fun p => h ⟨⟨h1, p.1⟩, p.2⟩)]; rfl
  · rw [if_neg h1]; rfl
def volOk (s : Int) : Prop := 0 ≤ s ∧ s ≤ 1000000000
instance (s : Int) : Decidable (volOk s) := by unfold volOk; exact inferInstance
/-- the first day after which the volume is too great; k if there is none among the first k -/
def overW (s most : Int) (xs : List RWater) : Nat → Nat
  | 0 => 0
  | k + 1 => if overW s most xs k < k then overW s most xs k else if most < volW s xs (k + 1) then k else k + 1
theorem overW_none {s most : Int} {xs : List RWater} {k : Nat} (h : ∀ j, j < k → ¬ most < volW s xs (j + 1)) : overW s most xs k = k := by
  induction k with
  | zero => rfl
  | succ k ih =>
    have e := ih (fun j hj => h j (by omega))
    show (if overW s most xs k < k then overW s most xs k else if most < volW s xs (k + 1) then k else k + 1) = k + 1
    rw [e, if_neg (by omega), if_neg (h k (by omega))]
theorem overW_some {s most : Int} {xs : List RWater} {k n : Nat} (h : ∀ j, j < k → ¬ most < volW s xs (j + 1)) (hk : k < n) (hg : most < volW s xs (k + 1)) : overW s most xs n = k := by
  induction n with
  | zero => omega
  | succ n ih =>
    show (if overW s most xs n < n then overW s most xs n else if most < volW s xs (n + 1) then n else n + 1) = k
    by_cases e : k = n
    · subst e
      rw [overW_none h, if_neg (by omega), if_pos hg]
    · have := ih (by omega)
      rw [this, if_pos (by omega)]
/-- what RunBalance and LevelsOver say of the first day that is bad -/
def badW (s last : Int) (xs : List RWater) : Nat → Int
  | 0 => 0
  | k + 1 => if badW s last xs k ≠ 0 then badW s last xs k else if volW s xs (k + 1) < 0 then 6 else if last < volW s xs (k + 1) then 10 else 0
theorem badW_ok {s last : Int} {xs : List RWater} {k : Nat} (h : ∀ j, j < k → 0 ≤ volW s xs (j + 1) ∧ volW s xs (j + 1) ≤ last) : badW s last xs k = 0 := by
  induction k with
  | zero => rfl
  | succ k ih =>
    have e := ih (fun j hj => h j (by omega))
    have := h k (by omega)
    show (if badW s last xs k ≠ 0 then badW s last xs k else if volW s xs (k + 1) < 0 then 6 else if last < volW s xs (k + 1) then 10 else 0) = 0
    rw [e, if_neg (by omega), if_neg (by omega), if_neg (by omega)]
theorem badW_keep {s last : Int} {xs : List RWater} {k : Nat} (h : badW s last xs k ≠ 0) (n : Nat) (hn : k ≤ n) : badW s last xs n = badW s last xs k := by
  induction n with
  | zero => rw [show k = 0 by omega]
  | succ n ih =>
    by_cases e : k = n + 1
    · rw [e]
    · have h2 := ih (by omega)
      show (if badW s last xs n ≠ 0 then badW s last xs n else if volW s xs (n + 1) < 0 then 6 else if last < volW s xs (n + 1) then 10 else 0) = _
      rw [h2, if_pos h]
theorem badW_neg {s last : Int} {xs : List RWater} {k n : Nat} (h : ∀ j, j < k → 0 ≤ volW s xs (j + 1) ∧ volW s xs (j + 1) ≤ last) (hk : k < n) (g : volW s xs (k + 1) < 0) : badW s last xs n = 6 := by
  have e : badW s last xs (k + 1) = 6 := by
    show (if badW s last xs k ≠ 0 then badW s last xs k else if volW s xs (k + 1) < 0 then 6 else if last < volW s xs (k + 1) then 10 else 0) = 6
    rw [badW_ok h, if_neg (by omega), if_pos g]
  rw [badW_keep (k := k + 1) (by omega) n (by omega), e]
theorem badW_much {s last : Int} {xs : List RWater} {k n : Nat} (h : ∀ j, j < k → 0 ≤ volW s xs (j + 1) ∧ volW s xs (j + 1) ≤ last) (hk : k < n) (g0 : ¬ volW s xs (k + 1) < 0) (g : last < volW s xs (k + 1)) : badW s last xs n = 10 := by
  have e : badW s last xs (k + 1) = 10 := by
    show (if badW s last xs k ≠ 0 then badW s last xs k else if volW s xs (k + 1) < 0 then 6 else if last < volW s xs (k + 1) then 10 else 0) = 10
    rw [badW_ok h, if_neg (by omega), if_neg g0, if_pos g]
  rw [badW_keep (k := k + 1) (by omega) n (by omega), e]
/-- what has been pumped besides on the first k days -/
def pumW (s most : Int) (xs : List RWater) : Nat → Int
  | 0 => 0
  | k + 1 => pumW s most xs k + max 0 (volW s xs (k + 1) - pumW s most xs k - most)
theorem pumW_bd {n : Nat} {xs : List RWater} (h : waAll n xs) {s most : Int} (hs : volOk s) (hm : volOk most) (k : Nat) (hk : k ≤ n) : 0 ≤ pumW s most xs k ∧ pumW s most xs k ≤ 1000000000 + 20000000 * (k : Int) := by
  induction k with
  | zero => simp [pumW]
  | succ k ih =>
    have h1 := ih (by omega)
    have h2 := volW_bd h s (k + 1) hk
    unfold volOk at hs hm
    simp only [pumW]
    omega
def misW (s most : Int) (xs : List RWater) (k : Nat) : Int := max 0 (volW s xs (k + 1) - pumW s most xs k - most)
/-- a row made of a function -/
def rowW (f : Nat → Int) (n : Nat) : List Int := (List.range n).map f
theorem rowW_len (f : Nat → Int) (n : Nat) : (rowW f n).length = n := by simp [rowW]
theorem rowW_at (f : Nat → Int) (n j : Nat) (h : j < n) : (rowW f n).getD j 0 = f j := by simp [rowW, List.getD_eq_getElem?_getD, h]
theorem rowW_succ (f : Nat → Int) (n : Nat) : rowW f (n + 1) = rowW f n ++ [f n] := by simp [rowW, List.range_succ]
theorem getZW (xs : List RWater) (k : Nat) : ∃ x, x = xs.getD k zWater := ⟨_, rfl⟩

end Go.Proofs.YtfpfmfhhcgafcabDoor
