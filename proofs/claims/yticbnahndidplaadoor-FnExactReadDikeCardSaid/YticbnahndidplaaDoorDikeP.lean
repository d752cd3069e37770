/- Dikes, plain mathematics: bounds, lengths, places, the weakest section, the clay, the best norm. No function of the program in it. RSection: f0 the length, f1 the crest (gen_rec.py Section). -/
import Derived.Test.YticbnahndidplaaDoorRSection
namespace Go.Proofs.YticbnahndidplaaDoor
open Go.RowKit

/-- a dike: 1 to 30 sections, each within its bounds -/
def DkOk (n : Nat) (xs : List RSection) : Prop := (∀ j, j < n → 1 ≤ (xs.getD j zSection).f0 ∧ (xs.getD j zSection).f0 ≤ 10000 ∧ -2000 ≤ (xs.getD j zSection).f1 ∧ (xs.getD j zSection).f1 ≤ 2000) ∧ 1 ≤ n ∧ n ≤ 30
/-- the length of the first k sections -/
def lenN (xs : List RSection) : Nat → Int
  | 0 => 0
  | k + 1 => lenN xs k + (xs.getD k zSection).f0
theorem lenN_bd {n : Nat} {xs : List RSection} (h : DkOk n xs) (k : Nat) (hk : k ≤ n) : (k : Int) ≤ lenN xs k ∧ lenN xs k ≤ 10000 * (k : Int) := by
  induction k with
  | zero => simp [lenN]
  | succ k ih =>
    have h1 := ih (by omega)
    have h2 := h.1 k (by omega)
    simp only [lenN]
    omega
theorem lenN_lt {n : Nat} {xs : List RSection} (h : DkOk n xs) {i j : Nat} (hij : i < j) (hj : j ≤ n) : lenN xs i < lenN xs j := by
  induction j with
  | zero => omega
  | succ j ih =>
    have h2 := h.1 j (by omega)
    have e : lenN xs (j + 1) = lenN xs j + (xs.getD j zSection).f0 := rfl
    by_cases c : i = j
    · subst c; omega
    · have := ih (by omega) (by omega); omega
/-- the section at a place -/
def IsSec (xs : List RSection) (n : Nat) (m : Int) (i : Nat) : Prop := i < n ∧ lenN xs i ≤ m ∧ m < lenN xs (i + 1)
theorem IsSec.uniq {xs : List RSection} {n : Nat} {m : Int} {i j : Nat} (h : DkOk n xs) (a : IsSec xs n m i) (b : IsSec xs n m j) : i = j := by
  obtain ⟨a1, a2, a3⟩ := a
  obtain ⟨b1, b2, b3⟩ := b
  rcases Nat.lt_trichotomy i j with c | c | c
  · have : lenN xs (i + 1) ≤ lenN xs j := by
      by_cases e : i + 1 = j
      · rw [e]; exact Int.le_refl _
      · have := lenN_lt h (show i + 1 < j by omega) (by omega); omega
    omega
  · exact c
  · have : lenN xs (j + 1) ≤ lenN xs i := by
      by_cases e : j + 1 = i
      · rw [e]; exact Int.le_refl _
      · have := lenN_lt h (show j + 1 < i by omega) (by omega); omega
    omega
def secF (xs : List RSection) (m : Int) : Nat → Nat
  | 0 => 0
  | k + 1 => if lenN xs (k + 1) ≤ m then k + 1 else secF xs m k
theorem secF_is {xs : List RSection} {n : Nat} {m : Int} (_h : DkOk n xs) (h0 : 0 ≤ m) (h1 : m < lenN xs n) : IsSec xs n m (secF xs m n) := by
  have key : ∀ k, k ≤ n → lenN xs (secF xs m k) ≤ m ∧ secF xs m k ≤ k ∧ (secF xs m k < k → m < lenN xs (secF xs m k + 1)) := by
    intro k
    induction k with
    | zero => intro _; simp [secF, lenN]; omega
    | succ k ih =>
      intro hk
      obtain ⟨i1, i2, i3⟩ := ih (by omega)
      simp only [secF]
      split
      · rename_i c
        exact ⟨c, Nat.le_refl _, fun x => absurd x (by omega)⟩
      · rename_i c
        refine ⟨i1, by omega, fun _ => ?_⟩
        by_cases e : secF xs m k = k
        · rw [e]; omega
        · exact i3 (by omega)
  obtain ⟨k1, k2, k3⟩ := key n (Nat.le_refl _)
  have hlt : secF xs m n < n := by
    rcases Nat.lt_or_ge (secF xs m n) n with c | c
    · exact c
    · have e : secF xs m n = n := by omega
      rw [e] at k1; omega
  exact ⟨hlt, k1, k3 hlt⟩
/-- the first section with the lowest crest -/
def wkF (xs : List RSection) : Nat → Nat
  | 0 => 0
  | k + 1 => if (xs.getD k zSection).f1 < (xs.getD (wkF xs k) zSection).f1 then k else wkF xs k
def IsWeak (xs : List RSection) (n i : Nat) : Prop := i < n ∧ (∀ j, j < n → (xs.getD i zSection).f1 ≤ (xs.getD j zSection).f1) ∧ ∀ j, j < i → (xs.getD i zSection).f1 < (xs.getD j zSection).f1
theorem IsWeak.uniq {xs : List RSection} {n i j : Nat} (a : IsWeak xs n i) (b : IsWeak xs n j) : i = j := by
  rcases Nat.lt_trichotomy i j with c | c | c
  · have := b.2.2 i c; have := a.2.1 j b.1; omega
  · exact c
  · have := a.2.2 j c; have := b.2.1 i a.1; omega
theorem wkF_one (xs : List RSection) : wkF xs 1 = 0 := by simp [wkF]
theorem wkF_is (xs : List RSection) (k : Nat) : IsWeak xs (k + 1) (wkF xs (k + 1)) := by
  induction k with
  | zero => rw [wkF_one]; exact ⟨by omega, fun j hj => by rw [show j = 0 by omega]; exact Int.le_refl _, fun j hj => absurd hj (by omega)⟩
  | succ k ih =>
    obtain ⟨i1, i2, i3⟩ := ih
    have e : wkF xs (k + 1 + 1) = if (xs.getD (k + 1) zSection).f1 < (xs.getD (wkF xs (k + 1)) zSection).f1 then k + 1 else wkF xs (k + 1) := rfl
    rw [e]
    split
    · rename_i c
      refine ⟨by omega, fun j hj => ?_, fun j hj => ?_⟩
      · by_cases e2 : j = k + 1
        · rw [e2]; exact Int.le_refl _
        · have := i2 j (by omega); omega
      · have := i2 j (by omega); omega
    · rename_i c
      refine ⟨by omega, fun j hj => ?_, i3⟩
      by_cases e2 : j = k + 1
      · rw [e2]; omega
      · exact i2 j (by omega)
/-- how much of the first k sections a level overflows -/
def ovN (xs : List RSection) (y : Int) : Nat → Int
  | 0 => 0
  | k + 1 => ovN xs y k + if (xs.getD k zSection).f1 < y then (xs.getD k zSection).f0 else 0
theorem ovN_bd {n : Nat} {xs : List RSection} (h : DkOk n xs) (y : Int) (k : Nat) (hk : k ≤ n) : 0 ≤ ovN xs y k ∧ ovN xs y k ≤ 10000 * (k : Int) := by
  induction k with
  | zero => simp [ovN]
  | succ k ih =>
    have h1 := ih (by omega)
    have h2 := h.1 k (by omega)
    simp only [ovN]
    split <;> omega
/-- the metres by centimetres that raise the first k sections to a norm, and the clay -/
def clN (xs : List RSection) (y : Int) : Nat → Int
  | 0 => 0
  | k + 1 => clN xs y k + (xs.getD k zSection).f0 * max 0 (y - (xs.getD k zSection).f1)
def clay (xs : List RSection) (n : Nat) (y : Int) : Int := (8 * clN xs y n + 99) / 100
theorem clN_bd {n : Nat} {xs : List RSection} (h : DkOk n xs) {y : Int} (hy : -2000 ≤ y ∧ y ≤ 2001) (k : Nat) (hk : k ≤ n) : 0 ≤ clN xs y k ∧ clN xs y k ≤ 40010000 * (k : Int) := by
  induction k with
  | zero => simp [clN]
  | succ k ih =>
    have h1 := ih (by omega)
    obtain ⟨a1, a2, a3, a4⟩ := h.1 k (by omega)
    simp only [clN]
    have p1 : 0 ≤ (xs.getD k zSection).f0 * max 0 (y - (xs.getD k zSection).f1) := Int.mul_nonneg (by omega) (by omega)
    have p2 : (xs.getD k zSection).f0 * max 0 (y - (xs.getD k zSection).f1) ≤ 10000 * 4001 := Int.mul_le_mul a2 (by omega) (by omega) (by omega)
    omega
theorem clN_mono {n : Nat} {xs : List RSection} (h : DkOk n xs) {y z : Int} (hyz : y ≤ z) (k : Nat) (hk : k ≤ n) : clN xs y k ≤ clN xs z k := by
  induction k with
  | zero => simp [clN]
  | succ k ih =>
    have h1 := ih (by omega)
    obtain ⟨a1, a2, a3, a4⟩ := h.1 k (by omega)
    simp only [clN]
    have p : (xs.getD k zSection).f0 * max 0 (y - (xs.getD k zSection).f1) ≤ (xs.getD k zSection).f0 * max 0 (z - (xs.getD k zSection).f1) := Int.mul_le_mul_of_nonneg_left (by omega) (by omega)
    omega
theorem clay_mono {n : Nat} {xs : List RSection} (h : DkOk n xs) {y z : Int} (hyz : y ≤ z) : clay xs n y ≤ clay xs n z := by
  have := clN_mono h hyz n (Nat.le_refl _)
  unfold clay
  omega
theorem clN_low {n : Nat} {xs : List RSection} {y : Int} (hy : ∀ j, j < n → y ≤ (xs.getD j zSection).f1) (k : Nat) (hk : k ≤ n) : clN xs y k = 0 := by
  induction k with
  | zero => rfl
  | succ k ih =>
    have h1 := ih (by omega)
    have h2 := hy k (by omega)
    simp only [clN]
    rw [h1, show max 0 (y - (xs.getD k zSection).f1) = 0 by omega]
    simp
/-- the best norm that some clay pays -/
def IsBest (xs : List RSection) (n : Nat) (c b : Int) : Prop := (xs.getD (wkF xs n) zSection).f1 ≤ b ∧ b ≤ 2000 ∧ clay xs n b ≤ c ∧ (b = 2000 ∨ c < clay xs n (b + 1))
theorem IsBest.uniq {xs : List RSection} {n : Nat} {c a b : Int} (h : DkOk n xs) (p : IsBest xs n c a) (q : IsBest xs n c b) : a = b := by
  obtain ⟨p1, p2, p3, p4⟩ := p
  obtain ⟨q1, q2, q3, q4⟩ := q
  rcases Int.lt_trichotomy a b with e | e | e
  · have := clay_mono h (show a + 1 ≤ b by omega); omega
  · exact e
  · have := clay_mono h (show b + 1 ≤ a by omega); omega
def bestF (xs : List RSection) (n : Nat) (c : Int) : Nat → Int
  | 0 => (xs.getD (wkF xs n) zSection).f1
  | k + 1 => if bestF xs n c k < 2000 ∧ clay xs n (bestF xs n c k + 1) ≤ c then bestF xs n c k + 1 else bestF xs n c k
theorem bestF_is {xs : List RSection} {n : Nat} {c : Int} (h : DkOk n xs) (hc : 0 ≤ c) : IsBest xs n c (bestF xs n c 4000) := by
  obtain ⟨k0, rfl⟩ : ∃ k0, n = k0 + 1 := ⟨n - 1, by have := h.2.1; omega⟩
  have hw := wkF_is xs k0
  have hl := h.1 _ hw.1
  have key : ∀ k, (xs.getD (wkF xs (k0 + 1)) zSection).f1 ≤ bestF xs (k0 + 1) c k ∧ bestF xs (k0 + 1) c k ≤ 2000 ∧ clay xs (k0 + 1) (bestF xs (k0 + 1) c k) ≤ c ∧ (bestF xs (k0 + 1) c k = (xs.getD (wkF xs (k0 + 1)) zSection).f1 + (k : Int) ∨ bestF xs (k0 + 1) c k = 2000 ∨ c < clay xs (k0 + 1) (bestF xs (k0 + 1) c k + 1)) := by
    intro k
    induction k with
    | zero =>
      refine ⟨Int.le_refl _, hl.2.2.2, ?_, .inl (by simp [bestF])⟩
      have e := clN_low (n := k0 + 1) (xs := xs) (y := (xs.getD (wkF xs (k0 + 1)) zSection).f1) (fun j hj => hw.2.1 j hj) (k0 + 1) (Nat.le_refl _)
      show clay xs (k0 + 1) (xs.getD (wkF xs (k0 + 1)) zSection).f1 ≤ c
      unfold clay
      rw [e]
      omega
    | succ k ih =>
      obtain ⟨i1, i2, i3, i4⟩ := ih
      simp only [bestF]
      split
      · rename_i hs
        exact ⟨by omega, by omega, hs.2, by omega⟩
      · rename_i hs
        refine ⟨i1, i2, i3, .inr ?_⟩
        by_cases e : bestF xs (k0 + 1) c k < 2000
        · exact .inr (by
            rcases Int.lt_or_le c (clay xs (k0 + 1) (bestF xs (k0 + 1) c k + 1)) with t | t
            · exact t
            · exact absurd ⟨e, t⟩ hs)
        · exact .inl (by omega)
  obtain ⟨j1, j2, j3, j4⟩ := key 4000
  refine ⟨j1, j2, j3, ?_⟩
  rcases j4 with j4 | j4 | j4
  · exact .inl (by omega)
  · exact .inl j4
  · exact .inr j4
/-- the dike raised to a norm -/
def rsL (y : Int) (xs : List RSection) : List RSection := xs.map fun x => ⟨x.f0, max y x.f1⟩
theorem rsL_len (y : Int) (xs : List RSection) : (rsL y xs).length = xs.length := by simp [rsL]
theorem rsL_at {y : Int} {xs : List RSection} {j : Nat} (h : j < xs.length) : (rsL y xs).getD j zSection = ⟨(xs.getD j zSection).f0, max y (xs.getD j zSection).f1⟩ := by
  simp [rsL, List.getD_eq_getElem?_getD, h]
theorem rsL_ok {n : Nat} {y : Int} {xs : List RSection} (h : DkOk n xs) (hl : xs.length = n) (hy : -2000 ≤ y ∧ y ≤ 2000) : DkOk n (rsL y xs) := by
  refine ⟨fun j hj => ?_, h.2⟩
  have := h.1 j hj
  rw [rsL_at (by omega)]
  simp only []
  omega
theorem rsL_over {y : Int} {xs : List RSection} (k : Nat) (hk : k ≤ xs.length) : ovN (rsL y xs) y k = 0 := by
  induction k with
  | zero => rfl
  | succ k ih =>
    simp only [ovN]
    rw [ih (by omega), rsL_at (by omega), if_neg (by simp only []; omega)]
    rfl
/-- the sections whose crest is too low -/
def wsN (xs : List RSection) (y z : Int) : Nat → List Int
  | 0 => []
  | k + 1 => wsN xs y z k ++ if (xs.getD k zSection).f1 - y < z then [(k : Int)] else []
theorem wsN_len (xs : List RSection) (y z : Int) (k : Nat) : (wsN xs y z k).length ≤ k := by
  induction k with
  | zero => simp [wsN]
  | succ k ih => simp only [wsN]; split <;> simp <;> omega
theorem wsN_mem {xs : List RSection} {y z : Int} {k : Nat} {x : Int} (h : x ∈ wsN xs y z k) : ∃ q : Nat, q < k ∧ x = (q : Int) ∧ (xs.getD q zSection).f1 - y < z := by
  induction k with
  | zero => simp [wsN] at h
  | succ k ih =>
    rw [wsN, List.mem_append] at h
    rcases h with h | h
    · obtain ⟨q, h1, h2, h3⟩ := ih h
      exact ⟨q, by omega, h2, h3⟩
    · split at h
      · rename_i ho
        simp at h
        exact ⟨k, by omega, h, ho⟩
      · simp at h
theorem rsL_weak {y : Int} {xs : List RSection} (k : Nat) (hk : k ≤ xs.length) : wsN (rsL y xs) y 0 k = [] := by
  induction k with
  | zero => rfl
  | succ k ih =>
    simp only [wsN]
    rw [ih (by omega), rsL_at (by omega), if_neg (by simp only []; omega)]
    rfl
/-- the length of the sections of a list of places -/
def lnOf (xs : List RSection) : List Int → Int
  | [] => 0
  | i :: r => (xs.getD i.toNat zSection).f0 + lnOf xs r
theorem lnOf_app (xs : List RSection) (a b : List Int) : lnOf xs (a ++ b) = lnOf xs a + lnOf xs b := by
  induction a with
  | nil => simp [lnOf]
  | cons i r ih => simp only [List.cons_append, lnOf]; rw [ih]; omega
theorem lnOf_step (xs : List RSection) (L : List Int) {i : Nat} (h : i < L.length) : lnOf xs (L.take (i + 1)) = lnOf xs (L.take i) + (xs.getD (L.getD i 0).toNat zSection).f0 := by
  rw [List.take_add_one, lnOf_app, List.getElem?_eq_getElem h]
  simp [lnOf, List.getD_eq_getElem?_getD, h]
theorem wsN_sum (xs : List RSection) (y : Int) (k : Nat) : lnOf xs (wsN xs y 0 k) = ovN xs y k := by
  induction k with
  | zero => rfl
  | succ k ih =>
    simp only [wsN, ovN]
    rw [lnOf_app, ih]
    by_cases c : (xs.getD k zSection).f1 < y
    · rw [if_pos (by omega), if_pos c]
      simp [lnOf]
    · rw [if_neg (by omega), if_neg c]
      rfl

end Go.Proofs.YticbnahndidplaaDoor
