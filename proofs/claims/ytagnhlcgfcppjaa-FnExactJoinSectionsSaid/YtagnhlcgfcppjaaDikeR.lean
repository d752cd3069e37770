/- Dikes, plain mathematics: the places of the sections that are lower, the sum of their lengths, the dike while it is raised. -/
import Derived.Test.YtagnhlcgfcppjaaDikeW
namespace Go.Proofs.Ytagnhlcgfcppjaa
open Go.RowKit

theorem lwN_mem {xs : List RSection} {h : Int} {k : Nat} {x : Int} : x ∈ lwN xs h k ↔ ∃ q : Nat, q < k ∧ x = (q : Int) ∧ (xs.getD q zSection).f1 < h := by
  induction k with
  | zero => simp [lwN]
  | succ k ih =>
    rw [lwN, List.mem_append, ih]
    constructor
    · rintro (⟨q, h1, h2, h3⟩ | hm)
      · exact ⟨q, by omega, h2, h3⟩
      · split at hm
        · rename_i ho
          simp at hm
          exact ⟨k, by omega, hm, ho⟩
        · simp at hm
    · rintro ⟨q, h1, h2, h3⟩
      by_cases e : q = k
      · subst e
        rw [if_pos h3]
        exact .inr (by simp [h2])
      · exact .inl ⟨q, by omega, h2, h3⟩
theorem lwN_at {xs : List RSection} {h : Int} {k i : Nat} (hi : i < (lwN xs h k).length) : ∃ q : Nat, q < k ∧ (lwN xs h k).getD i 0 = (q : Int) ∧ (xs.getD q zSection).f1 < h := by
  have hm : (lwN xs h k).getD i 0 ∈ lwN xs h k := by
    rw [List.getD_eq_getElem?_getD, List.getElem?_eq_getElem hi]
    exact List.getElem_mem hi
  obtain ⟨q, h1, h2, h3⟩ := lwN_mem.1 hm
  exact ⟨q, h1, h2, h3⟩
theorem lnOf_bd {n : Nat} {xs : List RSection} (h : DkOk n xs) (L : List Int) (hL : ∀ x ∈ L, ∃ q : Nat, q < n ∧ x = (q : Int)) : 0 ≤ lnOf xs L ∧ lnOf xs L ≤ 10000 * (L.length : Int) := by
  induction L with
  | nil => simp [lnOf]
  | cons i r ih =>
    obtain ⟨i1, i2⟩ := ih (fun x hx => hL x (by simp [hx]))
    obtain ⟨q, hq, e⟩ := hL i (by simp)
    have hd := h.1 q hq
    subst e
    simp only [lnOf, List.length_cons, Int.toNat_natCast]
    omega
theorem lw_sum (xs : List RSection) (y : Int) (k : Nat) : lnOf xs (lwN xs y k) = ovN xs y k := by
  rw [← wsN_sum, wsN_lw, Int.add_zero]

/-- the dike of which the first i of some sections have been raised -/
def rsA (xs : List RSection) (L : List Int) (y : Int) : Nat → List RSection
  | 0 => xs
  | i + 1 => (rsA xs L y i).set (L.getD i 0).toNat ⟨((rsA xs L y i).getD (L.getD i 0).toNat zSection).f0, y⟩
theorem rsA_len (xs : List RSection) (L : List Int) (y : Int) (i : Nat) : (rsA xs L y i).length = xs.length := by
  induction i with
  | zero => rfl
  | succ i ih => simp only [rsA, List.length_set]; exact ih
theorem getD_setS {xs : List RSection} {k j : Nat} {x : RSection} (h : j < xs.length) : (xs.set k x).getD j zSection = if k = j then x else xs.getD j zSection := by
  simp only [List.getD_eq_getElem?_getD, List.getElem?_set]
  by_cases e : k = j
  · subst e; simp [h]
  · simp [e]
theorem rsA_f0 (xs : List RSection) (L : List Int) (y : Int) (i j : Nat) (hj : j < xs.length) : ((rsA xs L y i).getD j zSection).f0 = (xs.getD j zSection).f0 := by
  induction i with
  | zero => rfl
  | succ i ih =>
    simp only [rsA]
    rw [getD_setS (by rw [rsA_len]; exact hj)]
    split
    · rename_i e; rw [e]; exact ih
    · exact ih
theorem rsA_f1 (xs : List RSection) (L : List Int) (y : Int) (i j : Nat) (hj : j < xs.length) (hL : ∀ k, k < i → ∃ q : Nat, L.getD k 0 = (q : Int)) : ((rsA xs L y i).getD j zSection).f1 = if ∃ k, k < i ∧ L.getD k 0 = (j : Int) then y else (xs.getD j zSection).f1 := by
  induction i with
  | zero => rw [if_neg (by rintro ⟨k, hk, _⟩; omega)]; rfl
  | succ i ih =>
    simp only [rsA]
    rw [getD_setS (by rw [rsA_len]; exact hj)]
    obtain ⟨q, hq⟩ := hL i (by omega)
    rw [hq, Int.toNat_natCast]
    by_cases e : q = j
    · rw [if_pos e, if_pos ⟨i, by omega, by rw [hq, e]⟩]
    · rw [if_neg e, ih (fun k hk => hL k (by omega))]
      by_cases hx : ∃ k, k < i ∧ L.getD k 0 = (j : Int)
      · obtain ⟨k, h1, h2⟩ := hx
        rw [if_pos ⟨k, h1, h2⟩, if_pos ⟨k, by omega, h2⟩]
      · rw [if_neg hx, if_neg]
        rintro ⟨k, h1, h2⟩
        by_cases e2 : k = i
        · subst e2; rw [hq] at h2; exact e (by omega)
        · exact hx ⟨k, by omega, h2⟩
theorem RS_ext {a b : RSection} (h0 : a.f0 = b.f0) (h1 : a.f1 = b.f1) : a = b := RSection.eq ⟨h0, h1⟩
theorem ext_S {xs ys : List RSection} (hl : xs.length = ys.length) (h : ∀ j, j < xs.length → xs.getD j zSection = ys.getD j zSection) : xs = ys := by
  apply List.ext_getElem hl
  intro j h1 h2
  have := h j h1
  rwa [getDSection h1, getDSection h2] at this
theorem rsA_end {xs : List RSection} {n : Nat} (y : Int) (hl : xs.length = n) : rsA xs (lwN xs y n) y (lwN xs y n).length = rsL y xs := by
  apply ext_S (by rw [rsA_len, rsL_len])
  intro j hj
  rw [rsA_len] at hj
  rw [rsL_at hj]
  apply RS_ext
  · exact rsA_f0 _ _ _ _ _ hj
  · rw [rsA_f1 _ _ _ _ _ hj (fun k hk => by obtain ⟨q, _, h2, _⟩ := lwN_at hk; exact ⟨q, h2⟩)]
    split
    · rename_i hx
      obtain ⟨k, h1, h2⟩ := hx
      obtain ⟨q, q1, q2, q3⟩ := lwN_at h1
      rw [q2] at h2
      have e : q = j := by omega
      subst e
      show y = max y _
      omega
    · rename_i hx
      show _ = max y _
      have : ¬ (xs.getD j zSection).f1 < y := fun hlt => hx (by
        have hm := (lwN_mem (xs := xs) (h := y) (k := n) (x := (j : Int))).2 ⟨j, by omega, rfl, hlt⟩
        obtain ⟨k, hk, e⟩ := List.getElem_of_mem hm
        exact ⟨k, hk, by rw [List.getD_eq_getElem?_getD, List.getElem?_eq_getElem hk]; exact e⟩)
      omega

end Go.Proofs.Ytagnhlcgfcppjaa
