/- Dry spells: plain mathematics. -/
import Derived.Test.YthjcpgabdlfojaaRainP
namespace Go.Proofs.Ythjcpgabdlfojaa
open Go.RowKit

/-- how many days without rain end right before day k -/
def dryN (xs : List Int) : Nat → Nat
  | 0 => 0
  | k + 1 => if 0 < xs.getD k 0 then 0 else dryN xs k + 1
theorem dryN_le (xs : List Int) : ∀ k, dryN xs k ≤ k := by
  intro k
  induction k with
  | zero => exact Nat.le_refl _
  | succ k ih => simp only [dryN]; split <;> omega
/-- whether a dry spell ends with day k -/
def endD (xs : List Int) (n k : Nat) : Bool := decide (¬ 0 < xs.getD k 0 ∧ (k + 1 = n ∨ 0 < xs.getD (k + 1) 0))
/-- the dry spells that have ended before day k: first day, number of days -/
def spN (xs : List Int) (n : Nat) : Nat → List (Nat × Nat)
  | 0 => []
  | k + 1 => if endD xs n k = true then spN xs n k ++ [(k + 1 - dryN xs (k + 1), dryN xs (k + 1))] else spN xs n k
theorem spN_yes {xs : List Int} {n k : Nat} (h : endD xs n k = true) : spN xs n (k + 1) = spN xs n k ++ [(k + 1 - dryN xs (k + 1), dryN xs (k + 1))] := if_pos h
theorem spN_no {xs : List Int} {n k : Nat} (h : endD xs n k = false) : spN xs n (k + 1) = spN xs n k := if_neg (by rw [h]; decide)
theorem spN_len (xs : List Int) (n : Nat) : ∀ k, (spN xs n k).length ≤ k := by
  intro k
  induction k with
  | zero => exact Nat.le_refl _
  | succ k ih =>
    simp only [spN]
    split
    · rw [List.length_append, List.length_singleton]; omega
    · omega
theorem spN_bd (xs : List Int) (n : Nat) : ∀ k, ∀ p ∈ spN xs n k, p.1 + p.2 ≤ k := by
  intro k
  induction k with
  | zero => intro p hp; cases hp
  | succ k ih =>
    intro p hp
    simp only [spN] at hp
    split at hp
    · rcases List.mem_append.1 hp with h | h
      · have := ih p h; omega
      · simp only [List.mem_singleton] at h
        have := dryN_le xs (k + 1)
        rw [h]
        show k + 1 - dryN xs (k + 1) + dryN xs (k + 1) ≤ k + 1
        omega
    · have := ih p hp; omega
/-- a run of days without rain from i to k -/
theorem dry_run {xs : List Int} {i : Nat} (h0 : dryN xs i = 0) : ∀ k, i ≤ k → (∀ j, i ≤ j → j < k → ¬ 0 < xs.getD j 0) → dryN xs k = k - i := by
  intro k
  induction k with
  | zero => intro hk _; obtain rfl : i = 0 := by omega
            rw [h0]
  | succ k ih =>
    intro hk h
    by_cases e : i = k + 1
    · subst e; rw [h0]; omega
    · simp only [dryN]
      rw [if_neg (h k (by omega) (by omega)), ih (by omega) (fun j hj hjk => h j hj (by omega))]
      omega
theorem sp_run {xs : List Int} {n i : Nat} : ∀ k, i ≤ k → (∀ j, i ≤ j → j < k → ¬ 0 < xs.getD j 0) → k < n → ¬ 0 < xs.getD k 0 → spN xs n k = spN xs n i := by
  intro k
  induction k with
  | zero => intro hk _ _ _; obtain rfl : i = 0 := by omega
            rfl
  | succ k ih =>
    intro hk h hn hz
    by_cases e : i = k + 1
    · subst e; rfl
    · have hk0 := h k (by omega) (by omega)
      have hf : endD xs n k = false := decide_eq_false (fun g => by rcases g.2 with g | g <;> omega)
      rw [spN_no hf]
      exact ih (by omega) (fun j hj hjk => h j hj (by omega)) (by omega) hk0
/-- what one round of the model adds -/
theorem sp_round {xs : List Int} {n i k : Nat} (h0 : dryN xs i = 0) (hik : i ≤ k) (hkn : k ≤ n) (hz : ∀ j, i ≤ j → j < k → ¬ 0 < xs.getD j 0) (he : k = n ∨ 0 < xs.getD k 0) :
    spN xs n k = if i < k then spN xs n i ++ [(i, k - i)] else spN xs n i := by
  by_cases h : i < k
  · rw [if_pos h]
    obtain ⟨m, rfl⟩ : ∃ m, k = m + 1 := ⟨k - 1, by omega⟩
    have hm := hz m (by omega) (by omega)
    have ht : endD xs n m = true := decide_eq_true ⟨hm, he⟩
    have hd := dry_run h0 (m + 1) hik hz
    rw [spN_yes ht, sp_run m (by omega) (fun j hj hjk => hz j hj (by omega)) (by omega) hm, hd]
    rw [show m + 1 - (m + 1 - i) = i by omega]
  · rw [if_neg h]
    obtain rfl : i = k := by omega
    rfl
theorem sp_next {xs : List Int} {n k : Nat} (hk : 0 < xs.getD k 0) : spN xs n (k + 1) = spN xs n k ∧ dryN xs (k + 1) = 0 := by
  have hf : endD xs n k = false := decide_eq_false (fun g => g.1 hk)
  exact ⟨spN_no hf, by simp only [dryN]; rw [if_pos hk]⟩

/-- the greatest number of days of a dry spell -/
def lgN (ps : List (Nat × Nat)) : Nat → Int
  | 0 => 0
  | k + 1 => max (lgN ps k) ((ps.getD k (0, 0)).2 : Int)
theorem lgN_bd {n : Nat} {ps : List (Nat × Nat)} (h : ∀ p ∈ ps, p.1 + p.2 ≤ n) : ∀ k, k ≤ ps.length → 0 ≤ lgN ps k ∧ lgN ps k ≤ (n : Int) := by
  intro k
  induction k with
  | zero => intro _; simp [lgN]
  | succ k ih =>
    intro hk
    have h1 := ih (by omega)
    have hm : ps.getD k (0, 0) ∈ ps := by
      rw [List.getD_eq_getElem?_getD, List.getElem?_eq_getElem (show k < ps.length by omega)]
      exact List.getElem_mem _
    have h2 := h _ hm
    simp only [lgN]
    omega
theorem lgN_app (ps : List (Nat × Nat)) (p : Nat × Nat) : lgN (ps ++ [p]) (ps.length + 1) = max (lgN ps ps.length) (p.2 : Int) := by
  have e : ∀ k, k ≤ ps.length → lgN (ps ++ [p]) k = lgN ps k := by
    intro k
    induction k with
    | zero => intro _; rfl
    | succ k ih =>
      intro hk
      simp only [lgN]
      rw [ih (by omega)]
      simp [List.getD_eq_getElem?_getD, List.getElem?_append_left (show k < ps.length by omega)]
  simp only [lgN]
  rw [e _ (Nat.le_refl _)]
  simp [List.getD_eq_getElem?_getD]

end Go.Proofs.Ythjcpgabdlfojaa
