/- Tides: what a table is, high and low waters, flanks, the level at a minute, spells, sums: plain mathematics. -/
import Derived.Test.YticbnahndidplaaDoorRTide
import Derived.Test.YticbnahndidplaaDoorRise
import Derived.Test.YticbnahndidplaaDoorFrac
namespace Go.Proofs.YticbnahndidplaaDoor
open Go.RowKit

def tM (xs : List RTide) (k : Nat) : Int := (xs.getD k zTide).f0
def tL (xs : List RTide) (k : Nat) : Int := (xs.getD k zTide).f1
def lvok (y : Int) : Prop := -2000 ≤ y ∧ y ≤ 2000
instance (y : Int) : Decidable (lvok y) := by unfold lvok; exact inferInstance
def tdA (xs : List RTide) (k : Nat) : Prop := 0 ≤ tM xs k ∧ tM xs k ≤ 100000 ∧ -2000 ≤ tL xs k ∧ tL xs k ≤ 2000
def tdB (xs : List RTide) (k : Nat) : Prop := 0 < k → tM xs (k - 1) < tM xs k ∧ ¬ tL xs (k - 1) = tL xs k
def tdC (xs : List RTide) (k : Nat) : Prop := 1 < k → (tL xs (k - 2) < tL xs (k - 1) ↔ ¬ tL xs (k - 1) < tL xs k)
def tdAt (xs : List RTide) (k : Nat) : Prop := tdA xs k ∧ tdB xs k ∧ tdC xs k
instance (xs : List RTide) (k : Nat) : Decidable (tdAt xs k) := by unfold tdAt tdA tdB tdC; exact inferInstance
def TdOk (n : Nat) (xs : List RTide) : Prop := (∀ k, k < n → tdAt xs k) ∧ 2 ≤ n ∧ n ≤ 40
instance (n : Nat) (xs : List RTide) : Decidable (TdOk n xs) := by unfold TdOk; exact inferInstance

def hiAt (n : Nat) (xs : List RTide) (k : Nat) : Prop := (0 < k → tL xs (k - 1) < tL xs k) ∧ (k + 1 < n → tL xs (k + 1) < tL xs k)
def loAt (n : Nat) (xs : List RTide) (k : Nat) : Prop := (0 < k → tL xs k < tL xs (k - 1)) ∧ (k + 1 < n → tL xs k < tL xs (k + 1))
instance (n : Nat) (xs : List RTide) (k : Nat) : Decidable (hiAt n xs k) := by unfold hiAt; exact inferInstance
instance (n : Nat) (xs : List RTide) (k : Nat) : Decidable (loAt n xs k) := by unfold loAt; exact inferInstance
def minsOf (xs : List RTide) : List Int := xs.map RTide.f0
theorem minsOf_len (xs : List RTide) : (minsOf xs).length = xs.length := by simp [minsOf]
theorem minsOf_at {xs : List RTide} {k : Nat} (_h : k < xs.length) : (minsOf xs).getD k 0 = tM xs k := by
  simp [minsOf, tM, List.getD_eq_getElem?_getD, _h]

section
variable {n : Nat} {xs : List RTide}
theorem TdOk.m {k : Nat} (h : TdOk n xs) (hk : k < n) : 0 ≤ tM xs k ∧ tM xs k ≤ 100000 := ⟨(h.1 k hk).1.1, (h.1 k hk).1.2.1⟩
theorem TdOk.l {k : Nat} (h : TdOk n xs) (hk : k < n) : -2000 ≤ tL xs k ∧ tL xs k ≤ 2000 := (h.1 k hk).1.2.2
theorem TdOk.up {k : Nat} (h : TdOk n xs) (hk : k + 1 < n) : tM xs k < tM xs (k + 1) ∧ ¬ tL xs k = tL xs (k + 1) := (h.1 (k + 1) hk).2.1 (by omega)
theorem TdOk.alt {k : Nat} (h : TdOk n xs) (hk : k + 2 < n) : tL xs k < tL xs (k + 1) ↔ ¬ tL xs (k + 1) < tL xs (k + 2) := (h.1 (k + 2) hk).2.2 (by omega)
theorem TdOk.lt {i j : Nat} (h : TdOk n xs) (hij : i < j) (hj : j < n) : tM xs i < tM xs j := by
  induction j with
  | zero => omega
  | succ j ih =>
    have := (h.up hj).1
    rcases Nat.lt_or_ge i j with c | c
    · have := ih c (by omega); omega
    · rw [show i = j by omega]; omega
theorem TdOk.le {i j : Nat} (h : TdOk n xs) (hij : i ≤ j) (hj : j < n) : tM xs i ≤ tM xs j := by
  rcases Nat.lt_or_ge i j with c | c
  · have := h.lt c hj; omega
  · rw [show i = j by omega]; omega
theorem TdOk.hl {k : Nat} (h : TdOk n xs) (hk : k < n) : hiAt n xs k ∨ loAt n xs k := by
  have h2 := h.2.1
  unfold hiAt loAt
  rcases Nat.eq_zero_or_pos k with rfl | h0
  · have := (h.up (k := 0) (by omega)).2
    rw [Nat.zero_add] at this
    rcases Int.lt_or_gt_of_ne this with c | c
    · exact .inr ⟨fun g => absurd g (by omega), fun _ => by rw [Nat.zero_add]; exact c⟩
    · exact .inl ⟨fun g => absurd g (by omega), fun _ => by rw [Nat.zero_add]; exact c⟩
  · obtain ⟨j, rfl⟩ : ∃ j, k = j + 1 := ⟨k - 1, by omega⟩
    have e1 : j + 1 - 1 = j := rfl
    rw [e1]
    have u := (h.up hk).2
    by_cases c : tL xs j < tL xs (j + 1)
    · refine .inl ⟨fun _ => c, fun g => ?_⟩
      have a := (h.alt (k := j) (by omega)).1 c
      have b := (h.up (k := j + 1) (by omega)).2
      have e2 : j + 1 + 1 = j + 2 := rfl
      rw [e2] at b ⊢
      omega
    · refine .inr ⟨fun _ => by omega, fun g => ?_⟩
      have a := h.alt (k := j) (by omega)
      have e2 : j + 1 + 1 = j + 2 := rfl
      rw [e2]
      rcases Classical.em (tL xs (j + 1) < tL xs (j + 2)) with q | q
      · exact q
      · exact absurd (a.2 q) c
theorem td_of (h2 : 2 ≤ n) (h40 : n ≤ 40) (hm : ∀ k, k < n → (0 ≤ tM xs k ∧ tM xs k ≤ 100000) ∧ (0 < k → tM xs (k - 1) < tM xs k)) (hl : ∀ k, k < n → lvok (tL xs k) ∧ (hiAt n xs k ∨ loAt n xs k)) : TdOk n xs := by
  refine ⟨fun k hk => ⟨⟨(hm k hk).1.1, (hm k hk).1.2, (hl k hk).1.1, (hl k hk).1.2⟩, fun h0 => ⟨(hm k hk).2 h0, ?_⟩, fun h1 => ?_⟩, h2, h40⟩
  · rcases (hl k hk).2 with c | c
    · have := c.1 h0; omega
    · have := c.1 h0; omega
  · obtain ⟨j, rfl⟩ : ∃ j, k = j + 2 := ⟨k - 2, by omega⟩
    have e1 : j + 2 - 2 = j := rfl
    have e2 : j + 2 - 1 = j + 1 := rfl
    rw [e1, e2]
    have e3 : j + 1 - 1 = j := rfl
    have e4 : j + 1 + 1 = j + 2 := rfl
    rcases (hl (j + 1) (by omega)).2 with c | c
    · have a := c.1 (by omega)
      have b := c.2 (by omega)
      rw [e3] at a
      rw [e4] at b
      constructor <;> intro <;> omega
    · have a := c.1 (by omega)
      have b := c.2 (by omega)
      rw [e3] at a
      rw [e4] at b
      constructor <;> intro <;> omega
theorem td_ris (h : TdOk n xs) (hl : xs.length = n) : Ris 0 100000 (minsOf xs) := by
  intro j hj
  rw [minsOf_len, hl] at hj
  refine ⟨by rw [minsOf_at (by omega)]; exact h.m hj, fun h0 => ?_⟩
  rw [minsOf_at (by omega), minsOf_at (by omega)]
  exact h.lt (by omega) hj
theorem ris_td (h : Ris 0 100000 (minsOf xs)) (hl : xs.length = n) : ∀ k, k < n → (0 ≤ tM xs k ∧ tM xs k ≤ 100000) ∧ (0 < k → tM xs (k - 1) < tM xs k) := by
  intro k hk
  have := h k (by rw [minsOf_len]; omega)
  unfold stepOk at this
  rw [minsOf_at (by omega)] at this
  refine ⟨this.1, fun h0 => ?_⟩
  have h2 := this.2 h0
  rw [minsOf_at (by omega)] at h2
  exact h2
theorem td_no1 {b : Bool} (hb : b = true ↔ TdOk n xs) (h : ¬ (2 ≤ (n : Int) ∧ (n : Int) ≤ 40)) : b = false := by
  cases b
  · rfl
  · have := (hb.1 rfl).2; omega
theorem td_no2 {b : Bool} (hb : b = true ↔ TdOk n xs) (hl : xs.length = n) (h : ¬ Ris 0 100000 (minsOf xs)) : b = false := by
  cases b
  · rfl
  · exact absurd (td_ris (hb.1 rfl) hl) h
theorem td_no3 {b : Bool} {k : Nat} (hb : b = true ↔ TdOk n xs) (hk : k < n) (h : ¬ (lvok (tL xs k) ∧ (hiAt n xs k ∨ loAt n xs k))) : b = false := by
  cases b
  · rfl
  · exact absurd ⟨(hb.1 rfl).l hk, (hb.1 rfl).hl hk⟩ h
theorem td_no {b : Bool} {k : Nat} (hb : b = true ↔ TdOk n xs) (hk : k < n) (h : ¬ tdAt xs k) : b = false := by
  cases b
  · rfl
  · exact absurd ((hb.1 rfl).1 k hk) h
theorem td_end {b : Bool} (hb : b = true ↔ TdOk n xs) (h : ∀ j, j < n → tdAt xs j) : b = decide (2 ≤ (n : Int) ∧ (n : Int) ≤ 40) := by
  cases hb' : b
  · symm; exact decide_eq_false (fun h2 => by have := hb.2 ⟨h, by omega, by omega⟩; rw [hb'] at this; cases this)
  · symm; have := (hb.1 hb').2; exact decide_eq_true (by omega)
end

/-- the indices of the high waters -/
def hwN (n : Nat) (xs : List RTide) : Nat → List Int
  | 0 => []
  | k + 1 => hwN n xs k ++ if hiAt n xs k then [(k : Int)] else []
theorem hi_spec0 {n : Nat} {xs : List RTide} (h : TdOk n xs) : hiAt n xs 0 ↔ tL xs 1 < tL xs 0 := by
  have := h.2.1
  exact ⟨fun g => g.2 (by omega), fun g => ⟨fun c => absurd c (by omega), fun _ => g⟩⟩
theorem hi_spec {n : Nat} {xs : List RTide} {k : Nat} (h : TdOk n xs) (hk : k + 1 < n) : hiAt n xs (k + 1) ↔ tL xs k < tL xs (k + 1) := by
  refine ⟨fun g => g.1 (by omega), fun g => ?_⟩
  rcases h.hl hk with c | c
  · exact c
  · have := c.1 (by omega)
    have e1 : k + 1 - 1 = k := rfl
    rw [e1] at this
    omega

/-- the differences of levels -/
def rgN (xs : List RTide) : Nat → List Int
  | 0 => []
  | k + 1 => rgN xs k ++ [((tL xs (k + 1) - tL xs k).natAbs : Int)]
theorem rgN_len (xs : List RTide) (k : Nat) : (rgN xs k).length = k := by induction k with | zero => rfl | succ k ih => simp [rgN, ih]

/-- the greatest index up to k at which the table is at or before a minute -/
def flF (xs : List RTide) (m : Int) : Nat → Nat
  | 0 => 0
  | k + 1 => if tM xs (k + 1) ≤ m then k + 1 else flF xs m k
theorem flF_le (xs : List RTide) (m : Int) (k : Nat) : flF xs m k ≤ k := by
  induction k with
  | zero => exact Nat.le_refl _
  | succ k ih => simp only [flF]; split <;> omega
theorem flF_lo {xs : List RTide} {m : Int} (k : Nat) (h0 : tM xs 0 ≤ m) : tM xs (flF xs m k) ≤ m := by
  induction k with
  | zero => exact h0
  | succ k ih => simp only [flF]; split
                 · assumption
                 · exact ih
theorem flF_hi {xs : List RTide} {m : Int} (k j : Nat) (hj : flF xs m k < j) (hk : j ≤ k) : m < tM xs j := by
  induction k with
  | zero => omega
  | succ k ih =>
    simp only [flF] at hj
    split at hj
    · omega
    · rename_i c
      rcases Nat.lt_or_ge k j with q | q
      · rw [show j = k + 1 by omega]; omega
      · exact ih hj q
theorem flF_eq {n : Nat} {xs : List RTide} {m : Int} {k i : Nat} (h : TdOk n xs) (hkn : k < n) (hi : i ≤ k) (h1 : tM xs i ≤ m) (h2 : i < k → m < tM xs (i + 1)) (h0 : tM xs 0 ≤ m) : flF xs m k = i := by
  have a := flF_le xs m k
  have b := flF_lo (xs := xs) (m := m) k h0
  rcases Nat.lt_trichotomy (flF xs m k) i with c | c | c
  · have := flF_hi (xs := xs) (m := m) k i c hi; omega
  · exact c
  · have := h2 (by omega)
    have := h.le (i := i + 1) (j := flF xs m k) (by omega) (by omega)
    omega

/-- numerator and denominator of the level at a minute on the flank i -/
def tNu (xs : List RTide) (i : Nat) (m : Int) : Int := tL xs i * (tM xs (i + 1) - tM xs i) + (tL xs (i + 1) - tL xs i) * (m - tM xs i)
def tDe (xs : List RTide) (i : Nat) : Int := tM xs (i + 1) - tM xs i
def OnFl (n : Nat) (xs : List RTide) (m : Int) (i : Nat) : Prop := i + 1 < n ∧ tM xs i ≤ m ∧ m ≤ tM xs (i + 1)
def inT (n : Nat) (xs : List RTide) (m : Int) : Prop := tM xs 0 ≤ m ∧ m ≤ tM xs (n - 1)
instance (n : Nat) (xs : List RTide) (m : Int) : Decidable (inT n xs m) := by unfold inT; exact inferInstance
theorem flF_on {n : Nat} {xs : List RTide} {m : Int} (h : TdOk n xs) (hm : inT n xs m) : OnFl n xs m (flF xs m (n - 2)) := by
  have h2 := h.2.1
  have a := flF_le xs m (n - 2)
  refine ⟨by omega, flF_lo _ hm.1, ?_⟩
  rcases Nat.lt_or_ge (flF xs m (n - 2)) (n - 2) with c | c
  · exact Int.le_of_lt (flF_hi (n - 2) _ (Nat.lt_succ_self _) c)
  · rw [show flF xs m (n - 2) + 1 = n - 1 by omega]; exact hm.2
theorem OnFl.ratio {n : Nat} {xs : List RTide} {m : Int} {i j : Nat} (h : TdOk n xs) (hi : OnFl n xs m i) (hj : OnFl n xs m j) : tNu xs i m * tDe xs j = tNu xs j m * tDe xs i := by
  have key : ∀ i j, i < j → OnFl n xs m i → OnFl n xs m j → tNu xs i m * tDe xs j = tNu xs j m * tDe xs i := by
    intro i j hij hi hj
    have h1 := h.le (i := i + 1) (j := j) (by omega) (by have := hj.1; omega)
    have e : m = tM xs (i + 1) := by have := hi.2.2; have := hj.2.1; omega
    have e2 : j = i + 1 := by
      rcases Nat.lt_or_ge (i + 1) j with c | c
      · have := h.lt c (by have := hj.1; omega); have := hj.2.1; omega
      · omega
    subst e2
    subst e
    unfold tNu tDe
    rw [Int.sub_self, Int.mul_zero, Int.add_zero, ← Int.add_mul, show tL xs i + (tL xs (i + 1) - tL xs i) = tL xs (i + 1) by omega, Int.mul_assoc, Int.mul_assoc, Int.mul_comm (tM xs (i + 1) - tM xs i)]
  rcases Nat.lt_trichotomy i j with c | c | c
  · exact key i j c hi hj
  · subst c; rfl
  · exact (key j i c hj hi).symm
theorem OnFl.bd {n : Nat} {xs : List RTide} {m : Int} {i : Nat} (h : TdOk n xs) (hi : OnFl n xs m i) : (1 ≤ tDe xs i ∧ tDe xs i ≤ 100000) ∧ (-200000000 ≤ tL xs i * tDe xs i ∧ tL xs i * tDe xs i ≤ 200000000) ∧ (-400000000 ≤ (tL xs (i + 1) - tL xs i) * (m - tM xs i) ∧ (tL xs (i + 1) - tL xs i) * (m - tM xs i) ≤ 400000000) ∧ 0 ≤ m - tM xs i ∧ m - tM xs i ≤ 100000 := by
  have a := h.m (k := i) (by have := hi.1; omega)
  have b := h.m hi.1
  have c := h.l (k := i) (by have := hi.1; omega)
  have d := h.l hi.1
  have u := (h.up hi.1).1
  have hd : 1 ≤ tDe xs i ∧ tDe xs i ≤ 100000 := by unfold tDe; omega
  have hm : 0 ≤ m - tM xs i ∧ m - tM xs i ≤ 100000 := by have := hi.2; omega
  refine ⟨hd, ?_, ?_, hm⟩
  · have p1 : tL xs i * tDe xs i ≤ 2000 * tDe xs i := Int.mul_le_mul_of_nonneg_right c.2 (by omega)
    have p2 : -2000 * tDe xs i ≤ tL xs i * tDe xs i := Int.mul_le_mul_of_nonneg_right c.1 (by omega)
    omega
  · have p1 : (tL xs (i + 1) - tL xs i) * (m - tM xs i) ≤ 4000 * (m - tM xs i) := Int.mul_le_mul_of_nonneg_right (by omega) hm.1
    have p2 : -4000 * (m - tM xs i) ≤ (tL xs (i + 1) - tL xs i) * (m - tM xs i) := Int.mul_le_mul_of_nonneg_right (by omega) hm.1
    omega
theorem OnFl.num {n : Nat} {xs : List RTide} {m : Int} {i : Nat} (h : TdOk n xs) (hi : OnFl n xs m i) : -600000000 ≤ tNu xs i m ∧ tNu xs i m ≤ 600000000 := by
  obtain ⟨_, a, b, _⟩ := hi.bd h
  unfold tDe at a
  unfold tNu
  omega

theorem natAbs_of_mul {a b c d : Int} (hb : 1 ≤ b) (hd : 1 ≤ d) (h : a * d = c * b) : a.natAbs * d.toNat = c.natAbs * b.toNat := by
  have := congrArg Int.natAbs h
  rw [Int.natAbs_mul, Int.natAbs_mul] at this
  rwa [show d.toNat = d.natAbs by omega, show b.toNat = b.natAbs by omega]
theorem frac_den {a b c d : Int} (hb : 1 ≤ b) (hd : 1 ≤ d) (h : a * d = c * b) : fden a b = fden c d := by
  have hn := natAbs_of_mul hb hd h
  unfold fden fgcd
  obtain ⟨p, rfl⟩ : ∃ p : Nat, b = p := ⟨b.toNat, by omega⟩
  obtain ⟨q, rfl⟩ : ∃ q : Nat, d = q := ⟨d.toNat, by omega⟩
  simp only [Int.toNat_natCast] at hn ⊢
  generalize a.natAbs = x at *
  generalize c.natAbs = y at *
  have hg : Nat.gcd x p * q = p * Nat.gcd y q := by
    rw [← Nat.gcd_mul_right, hn, ← Nat.gcd_mul_left, Nat.mul_comm y p]
  have h1 : 0 < Nat.gcd x p := Nat.gcd_pos_of_pos_right _ (by omega)
  have h2 : 0 < Nat.gcd y q := Nat.gcd_pos_of_pos_right _ (by omega)
  obtain ⟨u, hu⟩ := Nat.gcd_dvd_right x p
  obtain ⟨v, hv⟩ := Nat.gcd_dvd_right y q
  generalize Nat.gcd x p = g at *
  generalize Nat.gcd y q = k at *
  subst hu
  subst hv
  rw [← Int.natCast_ediv, ← Int.natCast_ediv, Nat.mul_div_cancel_left _ h1, Nat.mul_div_cancel_left _ h2]
  have : v = u := Nat.eq_of_mul_eq_mul_left (Nat.mul_pos h1 h2) (by rw [Nat.mul_assoc, hg, Nat.mul_assoc, Nat.mul_comm u k, ← Nat.mul_assoc])
  rw [this]
theorem frac_num {a b c d : Int} (hb : 1 ≤ b) (hd : 1 ≤ d) (h : a * d = c * b) : fnum a b = fnum c d := by
  have hn := natAbs_of_mul hb hd h
  unfold fnum fgcd
  obtain ⟨p, rfl⟩ : ∃ p : Nat, b = p := ⟨b.toNat, by omega⟩
  obtain ⟨q, rfl⟩ : ∃ q : Nat, d = q := ⟨d.toNat, by omega⟩
  simp only [Int.toNat_natCast] at hn ⊢
  have key : a.natAbs / Nat.gcd a.natAbs p = c.natAbs / Nat.gcd c.natAbs q := by
    generalize a.natAbs = x at *
    generalize c.natAbs = y at *
    have hg : x * Nat.gcd y q = y * Nat.gcd x p := by
      rw [← Nat.gcd_mul_left, hn, ← Nat.gcd_mul_left, Nat.mul_comm x y]
    have h1 : 0 < Nat.gcd x p := Nat.gcd_pos_of_pos_right _ (by omega)
    have h2 : 0 < Nat.gcd y q := Nat.gcd_pos_of_pos_right _ (by omega)
    obtain ⟨u, hu⟩ := Nat.gcd_dvd_left x p
    obtain ⟨v, hv⟩ := Nat.gcd_dvd_left y q
    generalize Nat.gcd x p = g at *
    generalize Nat.gcd y q = k at *
    subst hu
    subst hv
    rw [Nat.mul_div_cancel_left _ h1, Nat.mul_div_cancel_left _ h2]
    refine Nat.eq_of_mul_eq_mul_left (Nat.mul_pos h1 h2) ?_
    rw [Nat.mul_assoc, Nat.mul_comm k u, ← Nat.mul_assoc, hg, Nat.mul_comm (k * v) g, Nat.mul_assoc]
  rcases Int.lt_or_le a 0 with sa | sa
  · have sc : c < 0 := by
      rcases Int.lt_or_le c 0 with q' | q'
      · exact q'
      · have h1 : 0 ≤ c * (p : Int) := Int.mul_nonneg q' (by omega)
        have h2 : a * (q : Int) < 0 := Int.mul_neg_of_neg_of_pos sa (by omega)
        omega
    rw [show a = -((a.natAbs : Nat) : Int) by omega, show c = -((c.natAbs : Nat) : Int) by omega, Int.natAbs_neg, Int.natAbs_neg, Int.natAbs_natCast, Int.natAbs_natCast, Int.neg_tdiv, Int.neg_tdiv, Int.tdiv_eq_ediv_of_nonneg (by omega), Int.tdiv_eq_ediv_of_nonneg (by omega), ← Int.natCast_ediv, ← Int.natCast_ediv, key]
  · have sc : 0 ≤ c := by
      rcases Int.lt_or_le c 0 with q' | q'
      · have h1 : 0 ≤ a * (q : Int) := Int.mul_nonneg sa (by omega)
        have h2 : c * (p : Int) < 0 := Int.mul_neg_of_neg_of_pos q' (by omega)
        omega
      · exact q'
    rw [show a = ((a.natAbs : Nat) : Int) by omega, show c = ((c.natAbs : Nat) : Int) by omega, Int.natAbs_natCast, Int.natAbs_natCast, Int.tdiv_eq_ediv_of_nonneg (by omega), Int.tdiv_eq_ediv_of_nonneg (by omega), ← Int.natCast_ediv, ← Int.natCast_ediv, key]

/-- how far from the high water the tide is below a level for the first time, on a flank of N minutes that falls by D -/
def awF (h y N D : Int) : Int := max 0 ((h - y) * N / D + 1)
theorem div_is {a d q : Int} (hd : 0 < d) (h1 : q * d ≤ a) (h2 : a < (q + 1) * d) : a / d = q := by
  apply Int.le_antisymm
  · have := Int.ediv_lt_of_lt_mul hd h2; omega
  · exact Int.le_ediv_of_mul_le hd h1
/-- the model's way to the same: the last minute below a level, reckoned from the low water on -/
theorem aw_low {l h y N : Int} (hd : l < h) : min N (((y - l) * N - 1) / (h - l)) = N - awF h y N (h - l) := by
  have hD : 0 < h - l := by omega
  have q1 := Int.ediv_mul_le ((h - y) * N) (b := h - l) (by omega)
  have q2 := Int.lt_ediv_add_one_mul_self ((h - y) * N) hD
  unfold awF
  generalize hq : (h - y) * N / (h - l) = q at *
  have e : (y - l) * N = (h - l) * N - (h - y) * N := by rw [← Int.sub_mul]; congr 1; omega
  have e1 : (N - (q + 1)) * (h - l) = (h - l) * N - (q + 1) * (h - l) := by rw [Int.sub_mul, Int.mul_comm N]
  have e2 : (N - (q + 1) + 1) * (h - l) = (h - l) * N - q * (h - l) := by rw [show N - (q + 1) + 1 = N - q by omega, Int.sub_mul, Int.mul_comm N]
  have : ((y - l) * N - 1) / (h - l) = N - (q + 1) := div_is hD (by omega) (by omega)
  rw [this]
  omega
theorem aw_none {l h y N : Int} (hd : l < h) (hN : 0 < N) (hy : y ≤ l) : N < awF h y N (h - l) := by
  have hD : 0 < h - l := by omega
  have : N ≤ (h - y) * N / (h - l) := Int.le_ediv_of_mul_le hD (by rw [Int.mul_comm N]; exact Int.mul_le_mul_of_nonneg_right (by omega) (by omega))
  unfold awF
  omega
theorem aw_some {l h y N : Int} (hd : l < h) (hN : 0 < N) (hy : l < y) : awF h y N (h - l) ≤ N := by
  have hD : 0 < h - l := by omega
  have : (h - y) * N / (h - l) < N := Int.ediv_lt_of_lt_mul hD (by rw [Int.mul_comm N]; exact Int.mul_lt_mul_of_pos_right (by omega) hN)
  unfold awF
  omega
theorem aw_zero {l h y N : Int} (hd : l < h) (hN : 0 < N) : awF h y N (h - l) = 0 ↔ h < y := by
  have hD : 0 < h - l := by omega
  unfold awF
  constructor
  · intro e
    rcases Int.lt_or_le h y with c | c
    · exact c
    · have : 0 ≤ (h - y) * N / (h - l) := Int.ediv_nonneg (Int.mul_nonneg (by omega) (by omega)) (by omega)
      omega
  · intro c
    have : (h - y) * N / (h - l) < 0 := Int.ediv_neg_of_neg_of_pos (Int.mul_neg_of_neg_of_pos (by omega) hN) hD
    omega

/-- twice the sum of the levels of all minutes, by flanks -/
def mnN (xs : List RTide) : Nat → Int
  | 0 => 0
  | k + 1 => mnN xs k + (tL xs k + tL xs (k + 1)) * (tM xs (k + 1) - tM xs k)
theorem mnN_bd {n : Nat} {xs : List RTide} (h : TdOk n xs) (k : Nat) (hk : k < n) : -4000 * (tM xs k - tM xs 0) ≤ mnN xs k ∧ mnN xs k ≤ 4000 * (tM xs k - tM xs 0) := by
  induction k with
  | zero => simp [mnN]
  | succ k ih =>
    obtain ⟨i1, i2⟩ := ih (by omega)
    have a := h.l (k := k) (by omega)
    have b := h.l hk
    have u := (h.up hk).1
    have p1 : (tL xs k + tL xs (k + 1)) * (tM xs (k + 1) - tM xs k) ≤ 4000 * (tM xs (k + 1) - tM xs k) := Int.mul_le_mul_of_nonneg_right (by omega) (by omega)
    have p2 : -4000 * (tM xs (k + 1) - tM xs k) ≤ (tL xs k + tL xs (k + 1)) * (tM xs (k + 1) - tM xs k) := Int.mul_le_mul_of_nonneg_right (by omega) (by omega)
    simp only [mnN]
    omega

def tcode (n : Nat) (xs : List RTide) (P : Prop) [Decidable P] : Int := if TdOk n xs then (if P then 0 else 2) else 1
section
variable {n : Nat} {xs : List RTide} {P : Prop} [Decidable P]
theorem tcode_bad (h : ¬ TdOk n xs) : tcode n xs P = 1 := if_neg h
theorem tcode_ok (h : TdOk n xs) (p : P) : tcode n xs P = 0 := by unfold tcode; rw [if_pos h, if_pos p]
theorem tcode_no (h : TdOk n xs) (p : ¬ P) : tcode n xs P = 2 := by unfold tcode; rw [if_pos h, if_neg p]
theorem tcode_ne (h : ¬ (TdOk n xs ∧ P)) : ¬ tcode n xs P = 0 := by
  unfold tcode
  split
  · split
    · rename_i a b; exact absurd ⟨a, b⟩ h
    · omega
  · omega
end

end Go.Proofs.YticbnahndidplaaDoor
