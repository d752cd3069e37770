/- Spells below a level: plain mathematics. -/
import Derived.Test.YthpnkkbinffmkaaDoorTideP
import Derived.Test.YthpnkkbinffmkaaDoorRSpell
namespace Go.Proofs.YthpnkkbinffmkaaDoor
open Go.RowKit

/-- the minutes of a flank at which the tide is below a level: none if the first one is greater -/
def ptF (a b : RTide) (y : Int) : RSpell := if a.f1 ≤ b.f1 then ⟨a.f0, b.f0 - awF b.f1 y (b.f0 - a.f0) (b.f1 - a.f1)⟩ else ⟨a.f0 + awF a.f1 y (b.f0 - a.f0) (a.f1 - b.f1), b.f0⟩
/-- one more flank: its spell goes on from the last one, or is a new one -/
def spStep (L : List RSpell) (s : RSpell) : List RSpell :=
  if s.f1 < s.f0 then L else if L ≠ [] ∧ (L.getD (L.length - 1) zSpell).f1 = s.f0 then L.set (L.length - 1) ⟨(L.getD (L.length - 1) zSpell).f0, s.f1⟩ else L ++ [s]
/-- the spells below a level, of the first k flanks -/
def spN (xs : List RTide) (y : Int) : Nat → List RSpell
  | 0 => []
  | k + 1 => spStep (spN xs y k) (ptF (xs.getD k zTide) (xs.getD (k + 1) zTide) y)
theorem spStep_len (L : List RSpell) (s : RSpell) : (spStep L s).length ≤ L.length + 1 := by
  unfold spStep; split
  · omega
  · split <;> simp
theorem spN_len (xs : List RTide) (y : Int) (k : Nat) : (spN xs y k).length ≤ k := by
  induction k with
  | zero => exact Nat.le_refl _
  | succ k ih => have := spStep_len (spN xs y k) (ptF (xs.getD k zTide) (xs.getD (k + 1) zTide) y); simp only [spN]; omega

theorem aw_nn (h y N D : Int) : 0 ≤ awF h y N D := by unfold awF; omega
theorem ptF_up {a b : RTide} {y : Int} (h : a.f1 < b.f1) : ptF a b y = ⟨a.f0, b.f0 - awF b.f1 y (b.f0 - a.f0) (b.f1 - a.f1)⟩ := by unfold ptF; rw [if_pos (by omega)]
theorem ptF_dn {a b : RTide} {y : Int} (h : b.f1 < a.f1) : ptF a b y = ⟨a.f0 + awF a.f1 y (b.f0 - a.f0) (a.f1 - b.f1), b.f0⟩ := by unfold ptF; rw [if_neg (by omega)]
/-- what the spell of a flank is -/
structure PtFacts (a b : RTide) (y : Int) (s : RSpell) : Prop where
  none : s.f1 < s.f0 → ¬ a.f1 < y ∧ ¬ b.f1 < y
  lo : ¬ s.f1 < s.f0 → a.f0 ≤ s.f0 ∧ s.f1 ≤ b.f0
  a1 : ¬ s.f1 < s.f0 → a.f1 < y → s.f0 = a.f0
  a2 : ¬ s.f1 < s.f0 → ¬ a.f1 < y → a.f0 < s.f0
  b1 : ¬ s.f1 < s.f0 → b.f1 < y → s.f1 = b.f0
  b2 : ¬ s.f1 < s.f0 → ¬ b.f1 < y → s.f1 < b.f0
theorem pt_facts {a b : RTide} {y : Int} (hm : a.f0 < b.f0) (hl : ¬ a.f1 = b.f1) : PtFacts a b y (ptF a b y) := by
  rcases Int.lt_or_gt_of_ne hl with c | c
  · rw [ptF_up c]
    have z := aw_zero (y := y) c (show 0 < b.f0 - a.f0 by omega)
    have n0 := aw_nn b.f1 y (b.f0 - a.f0) (b.f1 - a.f1)
    have key : awF b.f1 y (b.f0 - a.f0) (b.f1 - a.f1) ≤ b.f0 - a.f0 ↔ a.f1 < y := by
      constructor
      · intro h
        rcases Int.lt_or_le a.f1 y with q | q
        · exact q
        · have := aw_none c (show 0 < b.f0 - a.f0 by omega) q; omega
      · intro h; exact aw_some c (by omega) h
    generalize awF b.f1 y (b.f0 - a.f0) (b.f1 - a.f1) = aw at *
    refine ⟨fun h => ?_, fun h => ?_, fun h g => ?_, fun h g => ?_, fun h g => ?_, fun h g => ?_⟩ <;> simp only at h ⊢
    · have : ¬ a.f1 < y := fun g => by have := key.2 g; omega
      exact ⟨this, by omega⟩
    · exact ⟨by omega, by omega⟩
    · exact absurd (key.1 (by omega)) g
    · have := z.2 g; omega
    · have : ¬ aw = 0 := fun e => g (z.1 e); omega
  · have c' : b.f1 < a.f1 := c
    rw [ptF_dn c']
    have z := aw_zero (y := y) c' (show 0 < b.f0 - a.f0 by omega)
    have n0 := aw_nn a.f1 y (b.f0 - a.f0) (a.f1 - b.f1)
    have key : awF a.f1 y (b.f0 - a.f0) (a.f1 - b.f1) ≤ b.f0 - a.f0 ↔ b.f1 < y := by
      constructor
      · intro h
        rcases Int.lt_or_le b.f1 y with q | q
        · exact q
        · have := aw_none c' (show 0 < b.f0 - a.f0 by omega) q; omega
      · intro h; exact aw_some c' (by omega) h
    generalize awF a.f1 y (b.f0 - a.f0) (a.f1 - b.f1) = aw at *
    refine ⟨fun h => ?_, fun h => ?_, fun h g => ?_, fun h g => ?_, fun h g => ?_, fun h g => ?_⟩ <;> simp only at h ⊢
    · have : ¬ b.f1 < y := fun g => by have := key.2 g; omega
      exact ⟨by omega, this⟩
    · exact ⟨by omega, by omega⟩
    · have := z.2 g; omega
    · have : ¬ aw = 0 := fun e => g (z.1 e); omega
    · exact absurd (key.1 (by omega)) g
theorem spStep_skip {L : List RSpell} {s : RSpell} (h : s.f1 < s.f0) : spStep L s = L := by unfold spStep; rw [if_pos h]
theorem spStep_nil {s : RSpell} (h : ¬ s.f1 < s.f0) : spStep [] s = [s] := by unfold spStep; rw [if_neg h, if_neg (by simp)]; rfl
theorem spStep_go {L : List RSpell} {s : RSpell} {m : Nat} (h : ¬ s.f1 < s.f0) (hl : L.length = m + 1) (e : (L.getD m zSpell).f1 = s.f0) : spStep L s = L.set m ⟨(L.getD m zSpell).f0, s.f1⟩ := by
  have hn : L ≠ [] := fun q => by rw [q] at hl; simp at hl
  have e1 : L.length - 1 = m := by omega
  unfold spStep
  rw [if_neg h, e1, if_pos ⟨hn, e⟩]
theorem spStep_new {L : List RSpell} {s : RSpell} {m : Nat} (h : ¬ s.f1 < s.f0) (hl : L.length = m + 1) (e : ¬ (L.getD m zSpell).f1 = s.f0) : spStep L s = L ++ [s] := by
  have e1 : L.length - 1 = m := by omega
  unfold spStep
  rw [if_neg h, e1, if_neg (fun q => e q.2)]
/-- where the last spell of the first k flanks ends -/
structure SpLast (xs : List RTide) (y : Int) (k : Nat) (L : List RSpell) : Prop where
  le : ∀ m, L.length = m + 1 → (L.getD m zSpell).f1 ≤ tM xs k
  yes : ∀ m, L.length = m + 1 → tL xs k < y → (L.getD m zSpell).f1 = tM xs k
  no : ∀ m, L.length = m + 1 → ¬ tL xs k < y → (L.getD m zSpell).f1 < tM xs k
  some : 0 < k → tL xs k < y → 0 < L.length
theorem set_getD_last {L : List RSpell} {m : Nat} (hl : L.length = m + 1) (x : RSpell) : (L.set m x).getD m zSpell = x := by
  rw [List.getD_eq_getElem?_getD, List.getElem?_set, if_pos rfl, if_pos (by omega)]
  rfl
theorem app_getD_last (L : List RSpell) (x : RSpell) : (L ++ [x]).getD L.length zSpell = x := by
  rw [List.getD_eq_getElem?_getD, List.getElem?_append_right (Nat.le_refl _)]
  simp
theorem sp_last {n : Nat} {xs : List RTide} (h : TdOk n xs) (y : Int) (k : Nat) (hk : k < n) : SpLast xs y k (spN xs y k) := by
  induction k with
  | zero => exact ⟨fun m e => by simp [spN] at e, fun m e => by simp [spN] at e, fun m e => by simp [spN] at e, fun g => absurd g (by omega)⟩
  | succ k ih =>
    have ih := ih (by omega)
    obtain ⟨u1, u2⟩ := h.up hk
    have F := pt_facts (a := xs.getD k zTide) (b := xs.getD (k + 1) zTide) (y := y) u1 u2
    show SpLast xs y (k + 1) (spStep (spN xs y k) (ptF (xs.getD k zTide) (xs.getD (k + 1) zTide) y))
    generalize ptF (xs.getD k zTide) (xs.getD (k + 1) zTide) y = s at F
    generalize spN xs y k = L at ih
    by_cases c : s.f1 < s.f0
    · have := F.none c
      rw [spStep_skip c]
      refine ⟨fun m e => ?_, fun m e g => absurd g this.2, fun m e _ => ?_, fun _ g => absurd g this.2⟩
      · have := ih.le m e; omega
      · have := ih.le m e; omega
    · have last : ∀ L' : List RSpell, (∀ m, L'.length = m + 1 → (L'.getD m zSpell).f1 = s.f1) → 0 < L'.length → SpLast xs y (k + 1) L' := fun L' hL hp =>
        ⟨fun m e => by rw [hL m e]; exact (F.lo c).2, fun m e g => by rw [hL m e]; exact F.b1 c g, fun m e g => by rw [hL m e]; exact F.b2 c g, fun _ _ => hp⟩
      cases hl : L.length with
      | zero =>
        obtain rfl : L = [] := List.eq_nil_of_length_eq_zero hl
        rw [spStep_nil c]
        refine last _ (fun m e => ?_) (by simp)
        obtain rfl : m = 0 := by simp at e; omega
        rfl
      | succ m =>
        by_cases e : (L.getD m zSpell).f1 = s.f0
        · rw [spStep_go c hl e]
          refine last _ (fun m' e' => ?_) (by simp [hl])
          obtain rfl : m' = m := by simp [hl] at e'; omega
          rw [set_getD_last hl]
        · rw [spStep_new c hl e]
          refine last _ (fun m' e' => ?_) (by simp)
          obtain rfl : m' = L.length := by simp at e'; omega
          rw [app_getD_last]
/-- the model's test and the program's are one -/
theorem sp_test {n : Nat} {xs : List RTide} (h : TdOk n xs) {y : Int} {k m : Nat} (hk : k + 1 < n) (hs : ¬ (ptF (xs.getD k zTide) (xs.getD (k + 1) zTide) y).f1 < (ptF (xs.getD k zTide) (xs.getD (k + 1) zTide) y).f0) (hl : (spN xs y k).length = m + 1) :
    ((spN xs y k).getD m zSpell).f1 + 1 ≥ (ptF (xs.getD k zTide) (xs.getD (k + 1) zTide) y).f0 ↔ ((spN xs y k).getD m zSpell).f1 = (ptF (xs.getD k zTide) (xs.getD (k + 1) zTide) y).f0 := by
  obtain ⟨u1, u2⟩ := h.up hk
  have F := pt_facts (a := xs.getD k zTide) (b := xs.getD (k + 1) zTide) (y := y) u1 u2
  have S := sp_last h y k (by omega)
  by_cases g : tL xs k < y
  · have a := F.a1 hs g
    have b := S.yes m hl g
    have e : (xs.getD k zTide).f0 = tM xs k := rfl
    omega
  · have a := F.a2 hs g
    have b := S.no m hl g
    have e : (xs.getD k zTide).f0 = tM xs k := rfl
    omega
/-- all spells lie within the table -/
theorem sp_in {n : Nat} {xs : List RTide} (h : TdOk n xs) (y : Int) (k : Nat) (hk : k < n) : ∀ j, j < (spN xs y k).length → 0 ≤ ((spN xs y k).getD j zSpell).f0 ∧ ((spN xs y k).getD j zSpell).f0 ≤ ((spN xs y k).getD j zSpell).f1 ∧ ((spN xs y k).getD j zSpell).f1 ≤ 100000 := by
  induction k with
  | zero => intro j hj; simp [spN] at hj
  | succ k ih =>
    have ih := ih (by omega)
    obtain ⟨u1, u2⟩ := h.up hk
    have F := pt_facts (a := xs.getD k zTide) (b := xs.getD (k + 1) zTide) (y := y) u1 u2
    have b0 := (h.m (k := k) (by omega)).1
    have b1 := (h.m hk).2
    have e0 : (xs.getD k zTide).f0 = tM xs k := rfl
    have e1 : (xs.getD (k + 1) zTide).f0 = tM xs (k + 1) := rfl
    show ∀ j, j < (spStep (spN xs y k) (ptF (xs.getD k zTide) (xs.getD (k + 1) zTide) y)).length → _
    show ∀ j, j < (spStep (spN xs y k) (ptF (xs.getD k zTide) (xs.getD (k + 1) zTide) y)).length → 0 ≤ ((spStep (spN xs y k) (ptF (xs.getD k zTide) (xs.getD (k + 1) zTide) y)).getD j zSpell).f0 ∧ ((spStep (spN xs y k) (ptF (xs.getD k zTide) (xs.getD (k + 1) zTide) y)).getD j zSpell).f0 ≤ ((spStep (spN xs y k) (ptF (xs.getD k zTide) (xs.getD (k + 1) zTide) y)).getD j zSpell).f1 ∧ ((spStep (spN xs y k) (ptF (xs.getD k zTide) (xs.getD (k + 1) zTide) y)).getD j zSpell).f1 ≤ 100000
    generalize ptF (xs.getD k zTide) (xs.getD (k + 1) zTide) y = s at F
    generalize spN xs y k = L at ih
    by_cases c : s.f1 < s.f0
    · rw [spStep_skip c]; exact ih
    · have hs := F.lo c
      have all : ∀ x : RSpell, (x = s ∨ ∃ j, j < L.length ∧ (x = L.getD j zSpell ∨ x = ⟨(L.getD j zSpell).f0, s.f1⟩ ∧ (L.getD j zSpell).f1 = s.f0)) → 0 ≤ x.f0 ∧ x.f0 ≤ x.f1 ∧ x.f1 ≤ 100000 := by
        rintro x (rfl | ⟨j, hj, rfl | ⟨rfl, e⟩⟩)
        · exact ⟨by omega, by omega, by omega⟩
        · exact ih j hj
        · have := ih j hj
          exact ⟨this.1, by simp only; omega, by simp only; omega⟩
      cases hl : L.length with
      | zero =>
        obtain rfl : L = [] := List.eq_nil_of_length_eq_zero hl
        rw [spStep_nil c]
        intro j hj
        obtain rfl : j = 0 := by simp at hj; omega
        exact all s (.inl rfl)
      | succ m =>
        by_cases e : (L.getD m zSpell).f1 = s.f0
        · rw [spStep_go c hl e]
          intro j hj
          rw [List.length_set] at hj
          by_cases ej : j = m
          · subst ej
            rw [set_getD_last hl]
            exact all _ (.inr ⟨j, hj, .inr ⟨rfl, e⟩⟩)
          · have e2 : (L.set m ⟨(L.getD m zSpell).f0, s.f1⟩).getD j zSpell = L.getD j zSpell := by
              rw [List.getD_eq_getElem?_getD, List.getElem?_set, if_neg (fun q => ej q.symm), ← List.getD_eq_getElem?_getD]
            rw [e2]
            exact all _ (.inr ⟨j, hj, .inl rfl⟩)
        · rw [spStep_new c hl e]
          intro j hj
          rw [List.length_append, List.length_singleton] at hj
          by_cases ej : j < L.length
          · have e2 : (L ++ [s]).getD j zSpell = L.getD j zSpell := by
              rw [List.getD_eq_getElem?_getD, List.getElem?_append_left ej, ← List.getD_eq_getElem?_getD]
            rw [e2]
            exact all _ (.inr ⟨j, ej, .inl rfl⟩)
          · obtain rfl : j = L.length := by omega
            rw [app_getD_last]
            exact all s (.inl rfl)
/-- the minutes of spells -/
def spSum (L : List RSpell) : Nat → Int
  | 0 => 0
  | k + 1 => spSum L k + ((L.getD k zSpell).f1 - (L.getD k zSpell).f0 + 1)
theorem spSum_bd {L : List RSpell} (h : ∀ j, j < L.length → 0 ≤ (L.getD j zSpell).f0 ∧ (L.getD j zSpell).f0 ≤ (L.getD j zSpell).f1 ∧ (L.getD j zSpell).f1 ≤ 100000) (k : Nat) (hk : k ≤ L.length) : 0 ≤ spSum L k ∧ spSum L k ≤ 100001 * (k : Int) := by
  induction k with
  | zero => simp [spSum]
  | succ k ih =>
    have a := ih (by omega)
    have b := h k (by omega)
    simp only [spSum]
    omega
theorem q_bd {a d : Int} (hd : 1 ≤ d) (h1 : -400000000 ≤ a) (h2 : a ≤ 400000000) : -400000000 ≤ a / d ∧ a / d ≤ 400000000 := by
  constructor
  · apply Int.le_ediv_of_mul_le (by omega)
    have : -400000000 * d ≤ -400000000 * 1 := Int.mul_le_mul_of_nonpos_left (by omega) hd
    omega
  · rcases Int.lt_or_le a 0 with c | c
    · have := Int.ediv_neg_of_neg_of_pos c (show 0 < d by omega); omega
    · have := Int.ediv_le_self d c; omega
theorem hn_bd {h y N : Int} (h1 : -2000 ≤ h) (h2 : h ≤ 2000) (y1 : -2000 ≤ y) (y2 : y ≤ 2000) (n1 : 1 ≤ N) (n2 : N ≤ 100000) : -400000000 ≤ (h - y) * N ∧ (h - y) * N ≤ 400000000 := by
  have p1 : (h - y) * N ≤ 4000 * N := Int.mul_le_mul_of_nonneg_right (by omega) (by omega)
  have p2 : -4000 * N ≤ (h - y) * N := Int.mul_le_mul_of_nonneg_right (by omega) (by omega)
  omega

end Go.Proofs.YthpnkkbinffmkaaDoor
