/- Breaches of dikes, plain: valid ones, the head, the inflow, what an hour does; no function of the program in it. -/
import Derived.Test.YticbnahndidplaaDoorCurveP
namespace Go.Proofs.YticbnahndidplaaDoor
open Go.RowKit

theorem least_enoughB {ls vs : List Int} (h : CurveOk ls vs) (v : Int) : ∀ m, m ≤ span ls → enough ls vs v m → ∃ i, i ≤ m ∧ (∀ k, k < i → ¬ enough ls vs v k) ∧ enough ls vs v i := by
  intro m
  induction m with
  | zero => intro _ he; exact ⟨0, Nat.le_refl _, fun k hk => by omega, he⟩
  | succ m ih =>
    intro hm he
    by_cases hp : enough ls vs v m
    · obtain ⟨i, h1, h2, h3⟩ := ih (by omega) hp
      exact ⟨i, by omega, h2, h3⟩
    · exact ⟨m + 1, Nat.le_refl _, fun k hk hk2 => hp (enough_mono h v k m (by omega) (by omega) hk2), he⟩
theorem lvAt_on {ls vs : List Int} (h : CurveOk ls vs) {v : Int} (hv : v ≤ vs.getD (vs.length - 1) 0) : onC ls (lvAt ls vs v) ∧ v ≤ vAt ls vs (lvAt ls vs v) := by
  obtain ⟨i, h1, h2, h3⟩ := least_enoughB h v (span ls) (Nat.le_refl _) (enough_last h hv)
  rw [lvAt_eq h h1 h2 (fun _ => h3)]
  exact ⟨onC_at h h1, h3⟩
/-- the level at a volume is at most one that has the volume -/
theorem lvAt_le {ls vs : List Int} (h : CurveOk ls vs) {v y : Int} (hy : onC ls y) (hv : v ≤ vAt ls vs y) : lvAt ls vs v ≤ y := by
  have e : y = ls.getD 0 0 + (((y - ls.getD 0 0).toNat : Nat) : Int) := by have := hy.1; omega
  have hs : (y - ls.getD 0 0).toNat ≤ span ls := by have := hy.1; have := hy.2; have := span_eq h; omega
  obtain ⟨i, h1, h2, h3⟩ := least_enoughB h v _ hs (by unfold enough; rw [← e]; exact hv)
  rw [lvAt_eq h (by omega) h2 (fun _ => h3)]
  omega

def tlOk (a b c : Int) : Prop := (0 ≤ a ∧ a ≤ 1000) ∧ (-2000 ≤ b ∧ b ≤ 2000) ∧ 0 ≤ c ∧ c ≤ 1000000000
instance (a b c : Int) : Decidable (tlOk a b c) := by unfold tlOk; exact inferInstance
def lastN (ls : List Int) : Int := ls.getD (ls.length - 1) 0
def brOk (ls vs : List Int) (a b c : Int) : Prop := CurveOk ls vs ∧ tlOk a b c ∧ c ≤ lastN vs
instance (ls vs : List Int) (a b c : Int) : Decidable (brOk ls vs a b c) := by unfold brOk; exact inferInstance
def levOk (y : Int) : Prop := -2000 ≤ y ∧ y ≤ 2000
instance (y : Int) : Decidable (levOk y) := by unfold levOk; exact inferInstance
def stoOk (s : Int) : Prop := 0 ≤ s ∧ s ≤ 1000
instance (y : Int) : Decidable (stoOk y) := by unfold stoOk; exact inferInstance
def bcode (ls vs : List Int) (a b c : Int) (p : Prop) [Decidable p] : Int := if brOk ls vs a b c then (if p then 0 else 2) else 1

/-- by how much the water outside stands higher -/
def headN (ls vs : List Int) (b c y : Int) : Int := max 0 (y - max b (lvAt ls vs c))
/-- the volume up to which water can flow in -/
def mostN (ls vs : List Int) (y : Int) : Int := vAt ls vs (min y (lastN ls))
def inflN (ls vs : List Int) (a b c y : Int) : Int := if headN ls vs b c y = 0 then 0 else min (10 * a * headN ls vs b c y) (mostN ls vs y - c)
/-- the width after an hour with a head, before stones are thrown -/
def widN (a h : Int) : Int := if 0 < a then a + (h + 9) / 10 else a
def cloN (a h s : Int) : Int := min s (widN a h)
def stW (a h s : Int) : Int := min (widN a h - cloN a h s) 1000

theorem headN_bd {ls vs : List Int} {a b c y : Int} (h : brOk ls vs a b c) (hy : levOk y) : 0 ≤ headN ls vs b c y ∧ headN ls vs b c y ≤ 4000 := by
  have h1 := (lvAt_on h.1 h.2.2).1
  have h2 := (h.1.2.2.1).bd (j := 0) (by have := h.1.1; omega)
  have h3 := h1.1
  have h4 := hy.2
  unfold headN
  omega
theorem lvAt_bd {ls vs : List Int} {a b c : Int} (h : brOk ls vs a b c) : levOk (lvAt ls vs c) := by
  have h1 := (lvAt_on h.1 h.2.2).1
  have h2 := (h.1.2.2.1).bd (j := 0) (by have := h.1.1; omega)
  have h3 := (h.1.2.2.1).bd (j := ls.length - 1) (by have := h.1.1; omega)
  exact ⟨by have := h1.1; omega, by have := h1.2; omega⟩
/-- where there is a head, the level outside (or the greatest one) is one of the curve, and not below that inside -/
theorem most_on {ls vs : List Int} {a b c y : Int} (h : brOk ls vs a b c) (hh : headN ls vs b c y ≠ 0) : onC ls (min y (lastN ls)) ∧ lvAt ls vs c ≤ min y (lastN ls) := by
  have h1 := (lvAt_on h.1 h.2.2).1
  have h2 : lvAt ls vs c < y := by unfold headN at hh; omega
  have h3 := h1.1
  have h4 : lvAt ls vs c ≤ lastN ls := h1.2
  refine ⟨⟨by omega, ?_⟩, by omega⟩
  show min y (lastN ls) ≤ lastN ls
  omega
theorem most_bd {ls vs : List Int} {a b c y : Int} (h : brOk ls vs a b c) (hh : headN ls vs b c y ≠ 0) : c ≤ mostN ls vs y ∧ mostN ls vs y ≤ lastN vs ∧ mostN ls vs y ≤ 1000000000 := by
  obtain ⟨h1, h2⟩ := most_on h hh
  obtain ⟨g1, g2⟩ := lvAt_on h.1 h.2.2
  refine ⟨Int.le_trans g2 (vAt_mono h.1 g1 h1 h2), ?_, (vAt_bd h.1 h1).2⟩
  have := vAt_mono h.1 h1 (onC_last h.1) h1.2
  rw [vAt_last h.1] at this
  exact this
theorem mul10 {a h : Int} (h1 : 0 ≤ a) (h2 : a ≤ 1000) (g1 : 0 ≤ h) (g2 : h ≤ 4000) : 0 ≤ 10 * a * h ∧ 10 * a * h ≤ 40000000 := mulBd (a := 10 * a) (b := h) (p := 10000) (q := 4000) (by omega) (by omega) g1 g2
theorem inflN_bd {ls vs : List Int} {a b c y : Int} (h : brOk ls vs a b c) (hy : levOk y) : 0 ≤ inflN ls vs a b c y ∧ c + inflN ls vs a b c y ≤ lastN vs ∧ (headN ls vs b c y ≠ 0 → c + inflN ls vs a b c y ≤ mostN ls vs y) := by
  obtain ⟨g1, g2⟩ := headN_bd h hy
  have hm := mul10 h.2.1.1.1 h.2.1.1.2 g1 g2
  by_cases hh : headN ls vs b c y = 0
  · rw [show inflN ls vs a b c y = 0 from if_pos hh]
    exact ⟨Int.le_refl _, by have := h.2.2; omega, fun g => absurd hh g⟩
  · obtain ⟨k1, k2, k3⟩ := most_bd h hh
    rw [show inflN ls vs a b c y = min (10 * a * headN ls vs b c y) (mostN ls vs y - c) from if_neg hh]
    generalize 10 * a * headN ls vs b c y = q at *
    exact ⟨by omega, by omega, fun _ => by omega⟩
theorem widN_bd {a h : Int} (h1 : 0 ≤ a) (h2 : a ≤ 1000) (g1 : 0 ≤ h) (g2 : h ≤ 4000) : 0 ≤ widN a h ∧ widN a h ≤ 1401 := by
  unfold widN
  split <;> omega
theorem last_bd {ls vs : List Int} (h : CurveOk ls vs) : lastN vs ≤ 1000000000 := by
  have := h.1
  have h2 := h.2.1
  exact ((h.2.2.2.1).bd (j := vs.length - 1) (by omega)).2
theorem brOk.step {ls vs : List Int} {a b c y s : Int} (h : brOk ls vs a b c) (hy : levOk y) (hs : stoOk s) : brOk ls vs (stW a (headN ls vs b c y) s) b (c + inflN ls vs a b c y) := by
  obtain ⟨g1, g2⟩ := headN_bd h hy
  obtain ⟨k1, k2⟩ := widN_bd h.2.1.1.1 h.2.1.1.2 g1 g2
  obtain ⟨i1, i2, _⟩ := inflN_bd h hy
  have hl := last_bd h.1
  have h0 := hs.1
  have hc := h.2.1.2.2.1
  refine ⟨h.1, ⟨?_, h.2.1.2.1, by omega, by omega⟩, i2⟩
  unfold stW cloN
  constructor <;> omega
theorem cloN_bd {ls vs : List Int} {a b c y s : Int} (h : brOk ls vs a b c) (hy : levOk y) (hs : stoOk s) : 0 ≤ cloN a (headN ls vs b c y) s ∧ cloN a (headN ls vs b c y) s ≤ s := by
  obtain ⟨g1, g2⟩ := headN_bd h hy
  obtain ⟨k1, k2⟩ := widN_bd h.2.1.1.1 h.2.1.1.2 g1 g2
  have h0 := hs.1
  unfold cloN
  constructor <;> omega

/-- width, water, and what has been closed, after k hours -/
structure RSt where
  a : Int
  c : Int
  z : Int
def RSt.next (ls vs : List Int) (b y s : Int) (p : RSt) : RSt := ⟨stW p.a (headN ls vs b p.c y) s, p.c + inflN ls vs p.a b p.c y, p.z + cloN p.a (headN ls vs b p.c y) s⟩
def itB (ls vs : List Int) (a b c : Int) (ys : List Int) (st : Nat → Int) : Nat → RSt
  | 0 => ⟨a, c, 0⟩
  | k + 1 => RSt.next ls vs b (ys.getD k 0) (st k) (itB ls vs a b c ys st k)
/-- all levels, and stones for each of them -/
def HrsOk (ys : List Int) (st : Nat → Int) : Prop := ∀ k, k < ys.length → levOk (ys.getD k 0) ∧ stoOk (st k)
theorem itB_ok {ls vs : List Int} {a b c : Int} {ys : List Int} {st : Nat → Int} (h : brOk ls vs a b c) (hh : HrsOk ys st) : ∀ k, k ≤ ys.length → brOk ls vs (itB ls vs a b c ys st k).a b (itB ls vs a b c ys st k).c ∧ 0 ≤ (itB ls vs a b c ys st k).z ∧ (itB ls vs a b c ys st k).z ≤ 1000 * (k : Int) := by
  intro k
  induction k with
  | zero => intro _; exact ⟨h, Int.le_refl _, by show (0 : Int) ≤ _; omega⟩
  | succ k ih =>
    intro hk
    obtain ⟨h1, h2, h3⟩ := ih (by omega)
    obtain ⟨g1, g2⟩ := hh k (by omega)
    have h4 := cloN_bd h1 g1 g2
    have h5 := g2.2
    refine ⟨h1.step g1 g2, ?_, ?_⟩
    · show 0 ≤ (itB ls vs a b c ys st k).z + cloN _ _ _
      omega
    · show (itB ls vs a b c ys st k).z + cloN _ _ _ ≤ _
      omega

/-- the first number with a property; n, if none of the first n has it -/
def fstN (p : Nat → Bool) : Nat → Nat
  | 0 => 0
  | n + 1 => if fstN p n < n then fstN p n else if p n then n else n + 1
theorem fstN_le (p : Nat → Bool) (n : Nat) : fstN p n ≤ n := by
  induction n with
  | zero => exact Nat.le_refl _
  | succ n ih => unfold fstN; split <;> (try split) <;> omega
theorem fstN_no {p : Nat → Bool} {n : Nat} (h : ∀ k, k < n → p k = false) : fstN p n = n := by
  induction n with
  | zero => rfl
  | succ n ih =>
    have e := ih (fun k hk => h k (by omega))
    unfold fstN
    rw [if_neg (by omega), h n (by omega)]
    simp
theorem fstN_eq {p : Nat → Bool} {n k : Nat} (hk : k < n) (h : ∀ j, j < k → p j = false) (hp : p k = true) : fstN p n = k := by
  induction n with
  | zero => omega
  | succ n ih =>
    unfold fstN
    by_cases e : k = n
    · subst e
      rw [fstN_no h, if_neg (by omega), hp]
      simp
    · rw [ih (by omega), if_pos (by omega)]
theorem fstN_at {p : Nat → Bool} {n : Nat} (h : fstN p n < n) : p (fstN p n) = true ∧ ∀ j, j < fstN p n → p j = false := by
  induction n with
  | zero => omega
  | succ n ih =>
    by_cases g : fstN p n < n
    · have e : fstN p (n + 1) = fstN p n := by rw [show fstN p (n + 1) = if fstN p n < n then fstN p n else if p n then n else n + 1 from rfl, if_pos g]
      rw [e]; exact ih g
    · have hn : fstN p n = n := by have := fstN_le p n; omega
      have hno : ∀ j, j < n → p j = false := by
        intro j hj
        cases hpj : p j
        · rfl
        · exfalso
          have : ∀ m, j < m → fstN p m < m := by
            intro m
            induction m with
            | zero => intro hm; omega
            | succ m ihm =>
              intro hm
              unfold fstN
              by_cases hjm : j < m
              · rw [if_pos (ihm hjm)]; have := ihm hjm; omega
              · have : j = m := by omega
                subst this
                rw [hpj]
                split <;> simp <;> omega
          have := this n hj
          omega
      cases hpn : p n
      · have : fstN p (n + 1) = n + 1 := by rw [show fstN p (n + 1) = if fstN p n < n then fstN p n else if p n then n else n + 1 from rfl, if_neg g, hpn]; simp
        omega
      · have : fstN p (n + 1) = n := by rw [show fstN p (n + 1) = if fstN p n < n then fstN p n else if p n then n else n + 1 from rfl, if_neg g, hpn]; simp
        rw [this]; exact ⟨hpn, hno⟩

end Go.Proofs.YticbnahndidplaaDoor
