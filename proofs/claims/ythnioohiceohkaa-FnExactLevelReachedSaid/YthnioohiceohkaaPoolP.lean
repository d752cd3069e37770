/- Cells that are reached: plain mathematics; no function of the program in it. -/
import Derived.Test.YthnioohiceohkaaBase
namespace Go.Proofs.Ythnioohiceohkaa
open Go.RowKit

/-- how many of the first k are in a set -/
def cnt (S : Nat → Bool) : Nat → Nat
  | 0 => 0
  | k + 1 => cnt S k + if S k then 1 else 0
theorem cnt_le (S : Nat → Bool) (n : Nat) : cnt S n ≤ n := by
  induction n with
  | zero => exact Nat.le_refl _
  | succ n ih => simp only [cnt]; split <;> omega
theorem cnt_mono {S R : Nat → Bool} {n : Nat} (h : ∀ k, k < n → S k = true → R k = true) : cnt S n ≤ cnt R n := by
  induction n with
  | zero => exact Nat.le_refl _
  | succ n ih =>
    have := ih (fun k hk => h k (by omega))
    simp only [cnt]
    cases hs : S n
    · simp; omega
    · rw [h n (by omega) hs]; simp; omega
theorem cnt_lt {S R : Nat → Bool} {n z : Nat} (h : ∀ k, k < n → S k = true → R k = true) (hz : z < n) (h1 : R z = true) (h2 : S z = false) : cnt S n < cnt R n := by
  induction n with
  | zero => omega
  | succ n ih =>
    simp only [cnt]
    by_cases e : z = n
    · subst e
      have := cnt_mono (n := z) (fun k hk => h k (by omega))
      rw [h1, h2]; simp; omega
    · have := ih (fun k hk => h k (by omega)) (by omega)
      cases hs : S n
      · simp; omega
      · rw [h n (by omega) hs]; simp; omega
theorem cnt_congr {S R : Nat → Bool} {n : Nat} (h : ∀ k, k < n → S k = R k) : cnt S n = cnt R n := by
  induction n with
  | zero => rfl
  | succ n ih => simp only [cnt]; rw [ih (fun k hk => h k (by omega)), h n (by omega)]
theorem cnt_pos {S : Nat → Bool} {n z : Nat} (hz : z < n) (h : S z = true) : 1 ≤ cnt S n := by
  have := cnt_lt (S := fun _ => false) (R := S) (n := n) (z := z) (fun k _ h => by cases h) hz h rfl
  omega
theorem cnt_set {S : Nat → Bool} {n z : Nat} (hz : z < n) (h : S z = false) : cnt (fun k => S k || k == z) n = cnt S n + 1 := by
  induction n with
  | zero => omega
  | succ n ih =>
    simp only [cnt]
    by_cases e : z = n
    · subst e
      have h3 := cnt_congr (S := fun k => S k || k == z) (R := S) (n := z) (fun k hk => by rw [show (k == z) = false from by simpa using (show ¬ k = z by omega)]; simp)
      rw [h3]
      simp [h]
    · have := ih (by omega)
      have e' : (n == z) = false := by simpa using fun h => e h.symm
      simp only [e', Bool.or_false]
      omega
section
variable {n : Nat} {nb : Nat → Nat → Bool}
/-- what is reached from x in k steps -/
def wetK (n : Nat) (nb : Nat → Nat → Bool) (x : Nat) : Nat → Nat → Bool
  | 0 => fun z => z == x
  | k + 1 => fun z => wetK n nb x k z || (List.range n).any fun y => wetK n nb x k y && nb y z
/-- what is reached from x -/
def wetF (n : Nat) (nb : Nat → Nat → Bool) (x : Nat) : Nat → Bool := wetK n nb x n
def Clo (n : Nat) (nb : Nat → Nat → Bool) (S : Nat → Bool) : Prop := ∀ y z, y < n → S y = true → nb y z = true → S z = true
theorem wetK_sub {x k z : Nat} (h : wetK n nb x k z = true) : wetK n nb x (k + 1) z = true := by simp only [wetK]; rw [h]; rfl
theorem wetK_self (x k : Nat) : wetK n nb x k x = true := by
  induction k with
  | zero => simp [wetK]
  | succ k ih => exact wetK_sub ih
theorem wetK_clo {x k : Nat} (h : Clo n nb (wetK n nb x k)) : wetK n nb x (k + 1) = wetK n nb x k := by
  funext z
  simp only [wetK]
  cases hz : wetK n nb x k z
  · rw [Bool.false_or, List.any_eq_false]
    intro y hy hq
    rw [List.mem_range] at hy
    rw [Bool.and_eq_true] at hq
    have := h y z hy hq.1 hq.2
    rw [hz] at this
    cases this
  · rfl
theorem wetK_or (hnb : ∀ y z, nb y z = true → z < n) {x : Nat} (hx : x < n) (k : Nat) : Clo n nb (wetK n nb x k) ∨ k + 1 ≤ cnt (wetK n nb x k) n := by
  induction k with
  | zero =>
    right
    have := cnt_lt (S := fun _ => false) (R := wetK n nb x 0) (n := n) (z := x) (fun k _ h => by cases h) hx (wetK_self x 0) rfl
    omega
  | succ k ih =>
    rcases ih with h | h
    · left; rw [wetK_clo h]; exact h
    · by_cases hc : Clo n nb (wetK n nb x k)
      · left; rw [wetK_clo hc]; exact hc
      · right
        have : ∃ y z, y < n ∧ wetK n nb x k y = true ∧ nb y z = true ∧ wetK n nb x k z = false := by
          apply Classical.byContradiction
          intro hn
          refine hc fun y z h1 h2 h3 => ?_
          cases hz : wetK n nb x k z
          · exact absurd ⟨y, z, h1, h2, h3, hz⟩ hn
          · rfl
        obtain ⟨y, z, h1, h2, h3, h4⟩ := this
        have := cnt_lt (S := wetK n nb x k) (R := wetK n nb x (k + 1)) (n := n) (z := z) (fun k' _ h => wetK_sub h) (hnb y z h3) (by
          simp only [wetK]
          rw [Bool.or_eq_true]
          right
          rw [List.any_eq_true]
          exact ⟨y, List.mem_range.2 h1, by rw [h2, h3]; rfl⟩) h4
        omega
theorem wetF_clo (hnb : ∀ y z, nb y z = true → z < n) {x : Nat} (hx : x < n) : Clo n nb (wetF n nb x) := by
  rcases wetK_or hnb hx n with h | h
  · exact h
  · have := cnt_le (wetK n nb x n) n
    omega
theorem wetF_self (n : Nat) (nb : Nat → Nat → Bool) (x : Nat) : wetF n nb x x = true := wetK_self x n
theorem wetF_least {x : Nat} {M : Nat → Bool} (hx : M x = true) (hc : Clo n nb M) (hnb : ∀ y z, nb y z = true → y < n) : ∀ z, wetF n nb x z = true → M z = true := by
  have : ∀ k z, wetK n nb x k z = true → M z = true := by
    intro k
    induction k with
    | zero => intro z h; simp [wetK] at h; rw [h]; exact hx
    | succ k ih =>
      intro z h
      simp only [wetK, Bool.or_eq_true, List.any_eq_true, Bool.and_eq_true] at h
      rcases h with h | ⟨y, _, h1, h2⟩
      · exact ih z h
      · exact hc y z (hnb y z h2) (ih y h1) h2
  exact this n
/-- what a search has seen, and what it will still look at -/
structure Fill (n : Nat) (nb : Nat → Nat → Bool) (x : Nat) (M : Nat → Bool) (T : List Nat) : Prop where
  base : M x = true
  sub : ∀ z, M z = true → z < n ∧ wetF n nb x z = true
  cl : ∀ y, y < n → M y = true → y ∈ T ∨ ∀ z, nb y z = true → M z = true
  tl : ∀ y ∈ T, y < n ∧ M y = true
theorem Fill.start {x : Nat} (hx : x < n) : Fill n nb x (fun k => k == x) [x] :=
  ⟨by simp, fun z h => by simp at h; rw [h]; exact ⟨hx, wetF_self n nb x⟩, fun y _ h => by left; simpa using h, fun y hy => by simp at hy; subst hy; exact ⟨hx, by simp⟩⟩
theorem wetK_lt {x : Nat} (hx : x < n) (hnb : ∀ y z, nb y z = true → z < n) : ∀ k z, wetK n nb x k z = true → z < n := by
  intro k
  induction k with
  | zero => intro z h; simp [wetK] at h; omega
  | succ k ih =>
    intro z h
    simp only [wetK, Bool.or_eq_true, List.any_eq_true, Bool.and_eq_true] at h
    rcases h with h | ⟨y, _, _, h2⟩
    · exact ih z h
    · exact hnb y z h2
theorem Fill.done {x : Nat} {M : Nat → Bool} (hnb : ∀ y z, nb y z = true → y < n ∧ z < n) (h : Fill n nb x M []) (z : Nat) : M z = wetF n nb x z := by
  have hc : Clo n nb M := fun y z hy h1 h2 => by
    rcases h.cl y hy h1 with h3 | h3
    · cases h3
    · exact h3 z h2
  cases hw : wetF n nb x z
  · cases hm : M z
    · rfl
    · have := (h.sub z hm).2; rw [hw] at this; cases this
  · exact wetF_least h.base hc (fun y z h => (hnb y z h).1) z hw
/-- the same while the cells next to y are gone through: those before have been seen to -/
structure FillI (n : Nat) (nb : Nat → Nat → Bool) (x : Nat) (M : Nat → Bool) (T : List Nat) (y : Nat) (D : List Nat) : Prop where
  base : M x = true
  sub : ∀ z, M z = true → z < n ∧ wetF n nb x z = true
  cl : ∀ a, a < n → M a = true → a = y ∨ a ∈ T ∨ ∀ z, nb a z = true → M z = true
  tl : ∀ a ∈ T, a < n ∧ M a = true
  ylt : y < n
  yin : M y = true
  dn : ∀ z ∈ D, nb y z = true → M z = true
theorem Fill.enter {x y : Nat} {M : Nat → Bool} {T T' : List Nat} (h : Fill n nb x M T) (hy : y ∈ T) (hT : ∀ a, a ∈ T → a = y ∨ a ∈ T') (hT' : ∀ a, a ∈ T' → a ∈ T) : FillI n nb x M T' y [] :=
  ⟨h.base, h.sub, fun a ha h1 => by
    rcases h.cl a ha h1 with h2 | h2
    · rcases hT a h2 with h3 | h3
      · exact .inl h3
      · exact .inr (.inl h3)
    · exact .inr (.inr h2), fun a ha => h.tl a (hT' a ha), (h.tl y hy).1, (h.tl y hy).2, fun z hz => by cases hz⟩
theorem FillI.leave {x y : Nat} {M : Nat → Bool} {T D : List Nat} (h : FillI n nb x M T y D) (hD : ∀ z, nb y z = true → z ∈ D) : Fill n nb x M T :=
  ⟨h.base, h.sub, fun a ha h1 => by
    rcases h.cl a ha h1 with h2 | h2 | h2
    · subst h2; exact .inr fun z hz => h.dn z (hD z hz) hz
    · exact .inl h2
    · exact .inr h2, h.tl⟩
theorem FillI.skip {x y z : Nat} {M : Nat → Bool} {T D : List Nat} (h : FillI n nb x M T y D) (hz : nb y z = true → M z = true) : FillI n nb x M T y (D ++ [z]) :=
  ⟨h.base, h.sub, h.cl, h.tl, h.ylt, h.yin, fun a ha hb => by
    rcases List.mem_append.1 ha with h1 | h1
    · exact h.dn a h1 hb
    · simp at h1; subst h1; exact hz hb⟩
theorem FillI.take {x y z : Nat} {M : Nat → Bool} {T D : List Nat} (hnb : ∀ y z, nb y z = true → z < n) (hx : x < n) (h : FillI n nb x M T y D) (hz : nb y z = true) : FillI n nb x (fun k => M k || k == z) (T ++ [z]) y (D ++ [z]) :=
  ⟨by simp [h.base], fun a hm => by
    rw [Bool.or_eq_true] at hm
    rcases hm with hm | hm
    · exact h.sub a hm
    · have e : a = z := by simpa using hm
      subst e
      exact ⟨hnb y a hz, wetF_clo hnb hx y a h.ylt (h.sub y h.yin).2 hz⟩, fun a ha hm => by
    rw [Bool.or_eq_true] at hm
    rcases hm with hm | hm
    · rcases h.cl a ha hm with h2 | h2 | h2
      · exact .inl h2
      · exact .inr (.inl (by simp [h2]))
      · exact .inr (.inr fun b hb => by simp [h2 b hb])
    · have e : a = z := by simpa using hm
      subst e
      exact .inr (.inl (by simp)), fun a ha => by
    rcases List.mem_append.1 ha with h1 | h1
    · exact ⟨(h.tl a h1).1, by simp [(h.tl a h1).2]⟩
    · simp at h1; subst h1; exact ⟨hnb y a hz, by simp⟩, h.ylt, by simp [h.yin], fun a ha hb => by
    rcases List.mem_append.1 ha with h1 | h1
    · simp [h.dn a h1 hb]
    · simp at h1; subst h1; simp⟩
end

end Go.Proofs.Ythnioohiceohkaa
