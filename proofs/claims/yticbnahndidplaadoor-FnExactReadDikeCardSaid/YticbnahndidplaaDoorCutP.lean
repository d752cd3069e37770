/- Dikes cut and joined, plain mathematics: lengths, bounds, crests at places. No function of the program in it. -/
import Derived.Test.YticbnahndidplaaDoorDikeP
namespace Go.Proofs.YticbnahndidplaaDoor
open Go.RowKit

/-- what of section k lies below a place -/
def tkN (xs : List RSection) (m : Int) (k : Nat) : Int := min (max 0 (m - lenN xs k)) (xs.getD k zSection).f0
def cutA (xs : List RSection) (m : Int) : Nat → List RSection
  | 0 => []
  | k + 1 => cutA xs m k ++ if 0 < tkN xs m k then [⟨tkN xs m k, (xs.getD k zSection).f1⟩] else []
def cutB (xs : List RSection) (m : Int) : Nat → List RSection
  | 0 => []
  | k + 1 => cutB xs m k ++ if tkN xs m k < (xs.getD k zSection).f0 then [⟨(xs.getD k zSection).f0 - tkN xs m k, (xs.getD k zSection).f1⟩] else []
theorem cutA_len (xs : List RSection) (m : Int) (k : Nat) : (cutA xs m k).length ≤ k := by
  induction k with
  | zero => simp [cutA]
  | succ k ih => simp only [cutA]; split <;> simp <;> omega
theorem cutB_len (xs : List RSection) (m : Int) (k : Nat) : (cutB xs m k).length ≤ k := by
  induction k with
  | zero => simp [cutB]
  | succ k ih => simp only [cutB]; split <;> simp <;> omega
theorem lenN_app (o : List RSection) (x : RSection) (k : Nat) (hk : k ≤ o.length) : lenN (o ++ [x]) k = lenN o k := by
  induction k with
  | zero => rfl
  | succ k ih =>
    simp only [lenN]
    rw [ih (by omega)]
    simp [List.getD_eq_getElem?_getD, List.getElem?_append_left (show k < o.length by omega)]
theorem lenN_snoc (o : List RSection) (x : RSection) : lenN (o ++ [x]) (o ++ [x]).length = lenN o o.length + x.f0 := by
  rw [List.length_append, List.length_singleton, lenN, lenN_app o x _ (Nat.le_refl _)]
  simp [List.getD_eq_getElem?_getD]
theorem cut_len {n : Nat} {xs : List RSection} (h : DkOk n xs) {m : Int} (hm : 0 ≤ m) (k : Nat) (hk : k ≤ n) : lenN (cutA xs m k) (cutA xs m k).length = min m (lenN xs k) ∧ lenN (cutB xs m k) (cutB xs m k).length = lenN xs k - min m (lenN xs k) := by
  induction k with
  | zero => simp [cutA, cutB, lenN]; omega
  | succ k ih =>
    obtain ⟨i1, i2⟩ := ih (by omega)
    obtain ⟨a1, a2, a3, a4⟩ := h.1 k (by omega)
    have e : lenN xs (k + 1) = lenN xs k + (xs.getD k zSection).f0 := rfl
    have t : tkN xs m k = min (max 0 (m - lenN xs k)) (xs.getD k zSection).f0 := rfl
    simp only [cutA, cutB]
    constructor
    · split
      · rw [lenN_snoc, i1]; simp only []; omega
      · rw [List.append_nil, i1]; omega
    · split
      · rw [lenN_snoc, i2]; simp only []; omega
      · rw [List.append_nil, i2]; omega
theorem app_getD (o : List RSection) (x : RSection) (j : Nat) : (o ++ [x]).getD j zSection = if j < o.length then o.getD j zSection else if j = o.length then x else zSection := by
  simp only [List.getD_eq_getElem?_getD]
  split
  · rename_i c; rw [List.getElem?_append_left c]
  · rename_i c
    rw [List.getElem?_append_right (by omega)]
    split
    · rename_i e; rw [e]; simp
    · rename_i e
      have : j - o.length ≠ 0 := by omega
      obtain ⟨q, hq⟩ : ∃ q, j - o.length = q + 1 := ⟨j - o.length - 1, by omega⟩
      rw [hq]; simp
/-- within its bounds, each section -/
def AllEl (o : List RSection) : Prop := ∀ j, j < o.length → 1 ≤ (o.getD j zSection).f0 ∧ (o.getD j zSection).f0 ≤ 10000 ∧ -2000 ≤ (o.getD j zSection).f1 ∧ (o.getD j zSection).f1 ≤ 2000
theorem AllEl.snoc {o : List RSection} (h : AllEl o) {x : RSection} (hx : 1 ≤ x.f0 ∧ x.f0 ≤ 10000 ∧ -2000 ≤ x.f1 ∧ x.f1 ≤ 2000) : AllEl (o ++ [x]) := by
  intro j hj
  rw [List.length_append, List.length_singleton] at hj
  rw [app_getD]
  split
  · exact h j (by assumption)
  · rw [if_pos (by omega)]; exact hx
theorem cut_el {n : Nat} {xs : List RSection} (h : DkOk n xs) (m : Int) (k : Nat) (hk : k ≤ n) : AllEl (cutA xs m k) ∧ AllEl (cutB xs m k) := by
  induction k with
  | zero => exact ⟨fun j hj => by simp [cutA] at hj, fun j hj => by simp [cutB] at hj⟩
  | succ k ih =>
    obtain ⟨i1, i2⟩ := ih (by omega)
    obtain ⟨a1, a2, a3, a4⟩ := h.1 k (by omega)
    have t : tkN xs m k = min (max 0 (m - lenN xs k)) (xs.getD k zSection).f0 := rfl
    simp only [cutA, cutB]
    constructor
    · split
      · exact i1.snoc ⟨by simp only []; omega, by simp only []; omega, a3, a4⟩
      · rw [List.append_nil]; exact i1
    · split
      · exact i2.snoc ⟨by simp only []; omega, by simp only []; omega, a3, a4⟩
      · rw [List.append_nil]; exact i2
/-- joining: a section is joined to the one before where crests agree and the sum fits -/
def jnStep (o : List RSection) (x : RSection) : List RSection :=
  if 0 < o.length ∧ (o.getD (o.length - 1) zSection).f1 = x.f1 ∧ (o.getD (o.length - 1) zSection).f0 + x.f0 ≤ 10000 then o.set (o.length - 1) ⟨(o.getD (o.length - 1) zSection).f0 + x.f0, (o.getD (o.length - 1) zSection).f1⟩ else o ++ [x]
def jnN (xs : List RSection) : Nat → List RSection
  | 0 => []
  | k + 1 => jnStep (jnN xs k) (xs.getD k zSection)
theorem set_last {o : List RSection} (h : 0 < o.length) (x : RSection) : ∃ p y, o = p ++ [y] ∧ o.getD (o.length - 1) zSection = y ∧ o.set (o.length - 1) x = p ++ [x] := by
  rcases List.eq_nil_or_concat o with e | ⟨p, y, e⟩
  · rw [e] at h; simp at h
  · have e2 : o = p ++ [y] := by simpa using e
    refine ⟨p, y, e2, ?_, ?_⟩
    · rw [e2, List.length_append, List.length_singleton, app_getD, if_neg (by omega), if_pos (by omega)]
    · rw [e2, List.length_append, List.length_singleton, Nat.add_sub_cancel, List.set_append_right _ _ (Nat.le_refl _)]
      simp
theorem jnStep_as (o : List RSection) (x : RSection) : (∃ p y, o = p ++ [y] ∧ y.f1 = x.f1 ∧ y.f0 + x.f0 ≤ 10000 ∧ jnStep o x = p ++ [⟨y.f0 + x.f0, y.f1⟩]) ∨ jnStep o x = o ++ [x] := by
  unfold jnStep
  split
  · rename_i h
    obtain ⟨p, y, e1, e2, e3⟩ := set_last h.1 ⟨(o.getD (o.length - 1) zSection).f0 + x.f0, (o.getD (o.length - 1) zSection).f1⟩
    refine .inl ⟨p, y, e1, ?_, ?_, ?_⟩
    · rw [← e2]; exact h.2.1
    · rw [← e2]; exact h.2.2
    · rw [e3, e2]
  · exact .inr rfl
theorem jn_facts {n : Nat} {xs : List RSection} (h : DkOk n xs) (k : Nat) (hk : k ≤ n) : (jnN xs k).length ≤ k ∧ (0 < k → 0 < (jnN xs k).length) ∧ AllEl (jnN xs k) ∧ lenN (jnN xs k) (jnN xs k).length = lenN xs k := by
  induction k with
  | zero => exact ⟨by simp [jnN], fun h => absurd h (by omega), fun j hj => by simp [jnN] at hj, rfl⟩
  | succ k ih =>
    obtain ⟨i1, _, i3, i4⟩ := ih (by omega)
    obtain ⟨a1, a2, a3, a4⟩ := h.1 k (by omega)
    have e : lenN xs (k + 1) = lenN xs k + (xs.getD k zSection).f0 := rfl
    have ej : jnN xs (k + 1) = jnStep (jnN xs k) (xs.getD k zSection) := rfl
    rw [ej]
    generalize jnN xs k = o at i1 i3 i4
    generalize xs.getD k zSection = x at a1 a2 a3 a4 e
    rcases jnStep_as o x with ⟨p, y, rfl, e1, e2, e3⟩ | e3
    · rw [e3]
      have hp : AllEl p := fun j hj => by
        have := i3 j (by simp; omega)
        rw [app_getD, if_pos hj] at this
        exact this
      have hy := i3 p.length (by simp)
      rw [app_getD, if_neg (by omega), if_pos rfl] at hy
      rw [lenN_snoc] at i4
      refine ⟨by simp at i1 ⊢; omega, fun _ => by simp, hp.snoc ⟨by simp only []; omega, e2, hy.2.2.1, hy.2.2.2⟩, ?_⟩
      rw [lenN_snoc]; simp only []; omega
    · rw [e3]
      refine ⟨by simp; omega, fun _ => by simp, i3.snoc ⟨a1, a2, a3, a4⟩, ?_⟩
      rw [lenN_snoc]; omega
theorem sec_app {o : List RSection} {x : RSection} {m : Int} {j : Nat} (h : IsSec o o.length m j) : IsSec (o ++ [x]) (o ++ [x]).length m j ∧ ((o ++ [x]).getD j zSection).f1 = (o.getD j zSection).f1 := by
  obtain ⟨h1, h2, h3⟩ := h
  refine ⟨⟨by simp; omega, ?_, ?_⟩, ?_⟩
  · rw [lenN_app o x j (by omega)]; exact h2
  · rw [lenN_app o x (j + 1) (by omega)]; exact h3
  · rw [app_getD, if_pos h1]
theorem sec_last {o : List RSection} {x : RSection} {m : Int} (h1 : lenN o o.length ≤ m) (h2 : m < lenN o o.length + x.f0) : IsSec (o ++ [x]) (o ++ [x]).length m o.length ∧ ((o ++ [x]).getD o.length zSection).f1 = x.f1 := by
  have e := lenN_snoc o x
  rw [List.length_append, List.length_singleton] at e
  refine ⟨⟨by simp, ?_, ?_⟩, ?_⟩
  · rw [lenN_app o x _ (Nat.le_refl _)]; exact h1
  · rw [e]; exact h2
  · rw [app_getD, if_neg (by omega), if_pos rfl]
theorem jn_crest {n : Nat} {xs : List RSection} (h : DkOk n xs) (k : Nat) (hk : k ≤ n) : ∀ i m, IsSec xs k m i → ∃ j, IsSec (jnN xs k) (jnN xs k).length m j ∧ ((jnN xs k).getD j zSection).f1 = (xs.getD i zSection).f1 := by
  induction k with
  | zero => intro i m hi; exact absurd hi.1 (by omega)
  | succ k ih =>
    intro i m hi
    obtain ⟨f1, f2, f3, f4⟩ := jn_facts h k (by omega)
    have ih := ih (by omega)
    obtain ⟨i1, i2, i3⟩ := hi
    have ej : jnN xs (k + 1) = jnStep (jnN xs k) (xs.getD k zSection) := rfl
    rw [ej]
    generalize jnN xs k = o at f1 f2 f3 f4 ih
    have e : lenN xs (k + 1) = lenN xs k + (xs.getD k zSection).f0 := rfl
    by_cases hik : i = k
    · subst hik
      generalize xs.getD i zSection = x at e
      rcases jnStep_as o x with ⟨p, y, rfl, e1, e2, e3⟩ | e3
      · rw [e3]
        have hy := f3 p.length (by simp)
        rw [app_getD, if_neg (by omega), if_pos rfl] at hy
        rw [lenN_snoc] at f4
        obtain ⟨s1, s2⟩ := sec_last (o := p) (x := ⟨y.f0 + x.f0, y.f1⟩) (m := m) (by omega) (by simp only []; omega)
        exact ⟨p.length, s1, by rw [s2]; exact e1⟩
      · rw [e3]
        obtain ⟨s1, s2⟩ := sec_last (o := o) (x := x) (m := m) (by omega) (by omega)
        exact ⟨o.length, s1, s2⟩
    · obtain ⟨j, hj, hc⟩ := ih i m ⟨by omega, i2, i3⟩
      have hx := h.1 k (by omega)
      generalize xs.getD k zSection = x at hx
      rcases jnStep_as o x with ⟨p, y, rfl, e1, e2, e3⟩ | e3
      · rw [e3]
        rw [app_getD] at hc
        by_cases hjp : j < p.length
        · rw [if_pos hjp] at hc
          obtain ⟨s1, s2⟩ := sec_app (o := p) (x := ⟨y.f0 + x.f0, y.f1⟩) (m := m) (j := j) ⟨hjp, by have := hj.2.1; rwa [lenN_app p y j (by omega)] at this, by have := hj.2.2; rwa [lenN_app p y (j + 1) (by omega)] at this⟩
          exact ⟨j, s1, by rw [s2]; exact hc⟩
        · have hjl : j = p.length := by have := hj.1; simp at this; omega
          subst hjl
          rw [if_neg (by omega), if_pos rfl] at hc
          have t1 := hj.2.1
          have t2 := hj.2.2
          rw [lenN_app p y _ (Nat.le_refl _)] at t1
          have e5 := lenN_snoc p y
          rw [List.length_append, List.length_singleton] at e5
          rw [e5] at t2
          obtain ⟨s1, s2⟩ := sec_last (o := p) (x := ⟨y.f0 + x.f0, y.f1⟩) (m := m) t1 (by simp only []; omega)
          exact ⟨p.length, s1, by rw [s2]; exact hc⟩
      · rw [e3]
        obtain ⟨s1, s2⟩ := sec_app (o := o) (x := x) hj
        exact ⟨j, s1, by rw [s2]; exact hc⟩

end Go.Proofs.YticbnahndidplaaDoor
