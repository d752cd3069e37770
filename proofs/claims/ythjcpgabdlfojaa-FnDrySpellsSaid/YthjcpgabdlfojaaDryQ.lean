/- Dry spells: what the law says of the plain functions. -/
import Derived.Test.YthjcpgabdlfojaaCDry
import Derived.Test.YthjcpgabdlfojaaCLongestDry
import Derived.Test.YthjcpgabdlfojaaRnd
namespace Go.Proofs.Ythjcpgabdlfojaa
open Go.RowKit

/-- a dry spell: no rain in it, some next to it -/
structure DryS (xs : List Int) (n : Nat) (p : Nat × Nat) : Prop where
  pos : 1 ≤ p.2
  bd : p.1 + p.2 ≤ n
  dry : ∀ j, p.1 ≤ j → j < p.1 + p.2 → ¬ 0 < xs.getD j 0
  pre : 0 < p.1 → 0 < xs.getD (p.1 - 1) 0
  post : p.1 + p.2 < n → 0 < xs.getD (p.1 + p.2) 0
theorem dryN_run (xs : List Int) : ∀ k, (∀ j, k - dryN xs k ≤ j → j < k → ¬ 0 < xs.getD j 0) ∧ (0 < k - dryN xs k → 0 < xs.getD (k - dryN xs k - 1) 0) := by
  intro k
  induction k with
  | zero => exact ⟨fun j _ h => absurd h (by omega), fun h => absurd h (by simp [dryN])⟩
  | succ k ih =>
    have hl := dryN_le xs k
    simp only [dryN]
    by_cases h : 0 < xs.getD k 0
    · rw [if_pos h]
      exact ⟨fun j h1 h2 => absurd h2 (by omega), fun _ => by rw [show k + 1 - 0 - 1 = k by omega]; exact h⟩
    · rw [if_neg h]
      rw [show k + 1 - (dryN xs k + 1) = k - dryN xs k by omega]
      refine ⟨fun j h1 h2 => ?_, ih.2⟩
      by_cases e : j = k
      · subst e; exact h
      · exact ih.1 j h1 (by omega)
theorem spN_all (xs : List Int) (n : Nat) : ∀ k, k ≤ n → ∀ p ∈ spN xs n k, DryS xs n p := by
  intro k
  induction k with
  | zero => intro _ p hp; cases hp
  | succ k ih =>
    intro hk p hp
    simp only [spN] at hp
    split at hp
    · rename_i he
      rcases List.mem_append.1 hp with h | h
      · exact ih (by omega) p h
      · simp only [List.mem_singleton] at h
        subst h
        obtain ⟨h1, h2⟩ := of_decide_eq_true he
        have hl := dryN_le xs (k + 1)
        have hd : dryN xs (k + 1) = dryN xs k + 1 := by simp only [dryN]; rw [if_neg h1]
        obtain ⟨r1, r2⟩ := dryN_run xs (k + 1)
        refine ⟨by show 1 ≤ dryN xs (k + 1); omega, by show k + 1 - dryN xs (k + 1) + dryN xs (k + 1) ≤ n; omega, fun j g1 g2 => ?_, fun g => ?_, fun g => ?_⟩
        · exact r1 j g1 (by have : k + 1 - dryN xs (k + 1) + dryN xs (k + 1) = k + 1 := by omega
                            rw [← this]; exact g2)
        · exact r2 g
        · show 0 < xs.getD (k + 1 - dryN xs (k + 1) + dryN xs (k + 1)) 0
          have e : k + 1 - dryN xs (k + 1) + dryN xs (k + 1) = k + 1 := by omega
          rw [e]
          rcases h2 with h2 | h2
          · have g' : k + 1 - dryN xs (k + 1) + dryN xs (k + 1) < n := g
            omega
          · exact h2
    · exact ih (by omega) p hp
/-- how many of the first k days have no rain -/
def zrN (xs : List Int) : Nat → Int
  | 0 => 0
  | k + 1 => zrN xs k + if 0 < xs.getD k 0 then 0 else 1
def smN (ps : List (Nat × Nat)) : Nat → Int
  | 0 => 0
  | k + 1 => smN ps k + ((ps.getD k (0, 0)).2 : Int)
theorem smN_app (ps : List (Nat × Nat)) (p : Nat × Nat) : smN (ps ++ [p]) (ps.length + 1) = smN ps ps.length + (p.2 : Int) := by
  have e : ∀ k, k ≤ ps.length → smN (ps ++ [p]) k = smN ps k := by
    intro k
    induction k with
    | zero => intro _; rfl
    | succ k ih =>
      intro hk
      simp only [smN]
      rw [ih (by omega)]
      simp [List.getD_eq_getElem?_getD, List.getElem?_append_left (show k < ps.length by omega)]
  simp only [smN]
  rw [e _ (Nat.le_refl _)]
  simp [List.getD_eq_getElem?_getD]
theorem zr_sum (xs : List Int) (n : Nat) : ∀ k, k ≤ n → smN (spN xs n k) (spN xs n k).length + (if k = n ∨ 0 < xs.getD k 0 then 0 else (dryN xs k : Int)) = zrN xs k := by
  intro k
  induction k with
  | zero => intro _; simp [smN, spN, zrN, dryN]
  | succ k ih =>
    intro hk
    have h := ih (by omega)
    simp only [zrN]
    by_cases hx : 0 < xs.getD k 0
    · rw [if_pos (.inr hx)] at h
      obtain ⟨e1, e2⟩ := sp_next (n := n) hx
      rw [e1, e2, if_pos hx]
      split <;> simp <;> omega
    · rw [if_neg (by intro g; rcases g with g | g <;> omega)] at h
      rw [if_neg hx]
      have hd : dryN xs (k + 1) = dryN xs k + 1 := by simp only [dryN]; rw [if_neg hx]
      by_cases he : k + 1 = n ∨ 0 < xs.getD (k + 1) 0
      · have ht : endD xs n k = true := decide_eq_true ⟨hx, he⟩
        rw [spN_yes ht, if_pos he, List.length_append, List.length_singleton, smN_app, hd]
        omega
      · have ht : endD xs n k = false := decide_eq_false (fun g => he g.2)
        rw [spN_no ht, if_neg he, hd]
        omega
theorem zr_all (xs : List Int) (n : Nat) : smN (spN xs n n) (spN xs n n).length = zrN xs n := by
  have := zr_sum xs n n (Nat.le_refl _)
  rw [if_pos (.inl rfl)] at this
  omega
theorem zrN_bd (xs : List Int) (k : Nat) : 0 ≤ zrN xs k ∧ zrN xs k ≤ (k : Int) := by
  induction k with
  | zero => simp [zrN]
  | succ k ih => simp only [zrN]; split <;> omega
theorem smN_bd (ps : List (Nat × Nat)) : ∀ k, 0 ≤ smN ps k ∧ (k ≤ ps.length → smN ps k ≤ smN ps ps.length) := by
  have mono : ∀ a b, a ≤ b → smN ps a ≤ smN ps b := by
    intro a b
    induction b with
    | zero => intro h; obtain rfl : a = 0 := by omega
              exact Int.le_refl _
    | succ b ih =>
      intro h
      by_cases e : a = b + 1
      · subst e; exact Int.le_refl _
      · have := ih (by omega)
        simp only [smN]
        omega
  intro k
  exact ⟨by have := mono 0 k (by omega); simpa [smN] using this, fun h => mono _ _ h⟩
theorem sumAt_zero {n : Nat} {xs : List Int} {a : Nat} (hv : ∀ j, j < n → 0 ≤ xs.getD j 0) : ∀ k, a + k ≤ n → (∀ j, a ≤ j → j < a + k → ¬ 0 < xs.getD j 0) → sumAt xs a k = 0 := by
  intro k
  induction k with
  | zero => intro _ _; rfl
  | succ k ih =>
    intro hk h
    simp only [sumAt]
    rw [ih (by omega) (fun j h1 h2 => h j h1 (by omega))]
    have h1 := h (a + k) (by omega) (by omega)
    have h2 := hv (a + k) (by omega)
    omega
/-- all spells have a day at least -/
theorem flp_one {ps : List (Nat × Nat)} (h : ∀ p ∈ ps, 1 ≤ p.2) : flp 1 ps = ps := by
  unfold flp
  rw [List.filter_eq_self]
  intro p hp
  have := h p hp
  simp
  omega
/-- the longest one is among them -/
theorem lg_in (ps : List (Nat × Nat)) : ∀ k, k ≤ ps.length → lgN ps k = 0 ∨ ∃ p ∈ ps, lgN ps k = (p.2 : Int) := by
  intro k
  induction k with
  | zero => intro _; exact .inl rfl
  | succ k ih =>
    intro hk
    have hm : ps.getD k (0, 0) ∈ ps := by
      rw [List.getD_eq_getElem?_getD, List.getElem?_eq_getElem (show k < ps.length by omega)]
      exact List.getElem_mem _
    simp only [lgN]
    by_cases h : lgN ps k ≤ ((ps.getD k (0, 0)).2 : Int)
    · exact .inr ⟨_, hm, by omega⟩
    · rcases ih (by omega) with g | ⟨p, hp, g⟩
      · exact .inl (by omega)
      · exact .inr ⟨p, hp, by omega⟩
theorem lg_ge (ps : List (Nat × Nat)) : ∀ k, k ≤ ps.length → 0 ≤ lgN ps k ∧ ∀ j, j < k → ((ps.getD j (0, 0)).2 : Int) ≤ lgN ps k := by
  intro k
  induction k with
  | zero => intro _; exact ⟨Int.le_refl _, fun j h => absurd h (by omega)⟩
  | succ k ih =>
    intro hk
    obtain ⟨h1, h2⟩ := ih (by omega)
    simp only [lgN]
    refine ⟨by omega, fun j hj => ?_⟩
    by_cases e : j = k
    · subst e; omega
    · have := h2 j (by omega); omega
theorem flp_max {ps : List (Nat × Nat)} (h : ∀ p ∈ ps, 1 ≤ p.2) : (0 < (flp (max 1 (lgN ps ps.length)) ps).length ↔ 0 < lgN ps ps.length) := by
  obtain ⟨g1, g2⟩ := lg_ge ps ps.length (Nat.le_refl _)
  constructor
  · intro hf
    have hm : (flp (max 1 (lgN ps ps.length)) ps)[0] ∈ flp (max 1 (lgN ps ps.length)) ps := List.getElem_mem hf
    have hp := (List.mem_filter.1 hm).1
    obtain ⟨j, hj, e⟩ := List.getElem_of_mem hp
    have h1 := h _ hp
    have h2 := g2 j hj
    rw [List.getD_eq_getElem?_getD, List.getElem?_eq_getElem hj] at h2
    simp only [Option.getD_some] at h2
    rw [e] at h2
    omega
  · intro hl
    rcases lg_in ps ps.length (Nat.le_refl _) with g | ⟨p, hp, g⟩
    · omega
    · have : p ∈ flp (max 1 (lgN ps ps.length)) ps := List.mem_filter.2 ⟨hp, by simp; omega⟩
      exact List.length_pos_of_mem this

end Go.Proofs.Ythjcpgabdlfojaa
