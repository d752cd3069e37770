/- Plain mathematics of lands; no function of the program in it. -/
import Derived.Test.YtcimigaimlojlaaReg
namespace Go.Proofs.Ytcimigaimlojlaa
open Go.RowKit

def LandOk (r c : Int) (xs : List Int) : Prop :=
  (1 ≤ r ∧ r ≤ 12) ∧ (1 ≤ c ∧ c ≤ 12) ∧ (xs.length : Int) = r * c ∧ ∀ j, j < xs.length → -2000 ≤ xs.getD j 0 ∧ xs.getD j 0 ≤ 2000
instance (r c : Int) (xs : List Int) : Decidable (LandOk r c xs) := by unfold LandOk; exact inferInstance
theorem mul_bd {r c : Int} (h1 : 1 ≤ r ∧ r ≤ 12) (h2 : 1 ≤ c ∧ c ≤ 12) : 1 ≤ r * c ∧ r * c ≤ 144 := by
  refine ⟨by have := Int.mul_pos (show 0 < r by omega) (show 0 < c by omega); omega, ?_⟩
  have := Int.mul_le_mul h1.2 h2.2 (by omega) (by omega)
  omega
theorem LandOk.len {r c : Int} {xs : List Int} (h : LandOk r c xs) : 1 ≤ xs.length ∧ xs.length ≤ 144 := by
  obtain ⟨h1, h2, h3, _⟩ := h
  have := mul_bd h1 h2
  omega

/-- the code of a land and of what is told with it -/
def lcode (r c : Int) (xs : List Int) (p : Prop) [Decidable p] : Int := if LandOk r c xs then (if p then 0 else 2) else 1
theorem lcode_bad {r c : Int} {xs : List Int} {p : Prop} [Decidable p] (h : ¬ LandOk r c xs) : lcode r c xs p = 1 := if_neg h
theorem lcode_no {r c : Int} {xs : List Int} {p : Prop} [Decidable p] (h : LandOk r c xs) (hp : ¬ p) : lcode r c xs p = 2 := by unfold lcode; rw [if_pos h, if_neg hp]
theorem lcode_ok {r c : Int} {xs : List Int} {p : Prop} [Decidable p] (h : LandOk r c xs) (hp : p) : lcode r c xs p = 0 := by unfold lcode; rw [if_pos h, if_pos hp]

theorem lcode_ne {r c : Int} {xs : List Int} {p : Prop} [Decidable p] (h : ¬ (LandOk r c xs ∧ p)) : (lcode r c xs p != 0) = true := by
  unfold lcode
  split
  · rw [if_neg (fun hp => h ⟨‹_›, hp⟩)]; rfl
  · rfl

theorem lcode_and {r c : Int} {xs : List Int} {p q : Prop} [Decidable p] [Decidable q] [Decidable (p ∧ q)] (h : ¬ (LandOk r c xs ∧ p)) : lcode r c xs (p ∧ q) = lcode r c xs p := by
  unfold lcode
  split
  · rw [if_neg (fun hp => h ⟨‹_›, hp⟩), if_neg (fun hp => h ⟨‹_›, hp.1⟩)]
  · rfl

def lvl (h : Int) : Prop := -2000 ≤ h ∧ h ≤ 2000
instance (h : Int) : Decidable (lvl h) := by unfold lvl; exact inferInstance
def place (r c row col : Int) : Prop := (0 ≤ row ∧ row ≤ r - 1) ∧ (0 ≤ col ∧ col ≤ c - 1)
instance (r c row col : Int) : Decidable (place r c row col) := by unfold place; exact inferInstance
theorem place_ix {r c row col : Int} {xs : List Int} (h : LandOk r c xs) (hp : place r c row col) : 0 ≤ row * c ∧ row * c ≤ 132 ∧ 0 ≤ row * c + col ∧ row * c + col < xs.length := by
  obtain ⟨h1, h2, h3, _⟩ := h
  obtain ⟨⟨a1, a2⟩, a3, a4⟩ := hp
  have e1 : 0 ≤ row * c := Int.mul_nonneg a1 (by omega)
  have e2 : row * c ≤ (r - 1) * c := Int.mul_le_mul a2 (Int.le_refl _) (by omega) (by omega)
  have e3 : (r - 1) * c = r * c - c := by rw [Int.sub_mul, Int.one_mul]
  have e4 : row * c ≤ 11 * 12 := Int.mul_le_mul (by omega) h2.2 (by omega) (by omega)
  omega

/-- the marks of the cells of which p holds, in ascending order, among the first k -/
def marksOf (p : Int → Bool) (xs : List Int) : Nat → List Int
  | 0 => []
  | k + 1 => marksOf p xs k ++ if p (xs.getD k 0) then [(k : Int)] else []
theorem marksOf_len (p : Int → Bool) (xs : List Int) (k : Nat) : (marksOf p xs k).length ≤ k := by
  induction k with
  | zero => simp [marksOf]
  | succ k ih => simp only [marksOf]; split <;> simp <;> omega
theorem marksOf_yes {p : Int → Bool} {xs : List Int} {k : Nat} (h : p (xs.getD k 0) = true) : marksOf p xs (k + 1) = marksOf p xs k ++ [(k : Int)] := by rw [marksOf, if_pos h]
theorem marksOf_no {p : Int → Bool} {xs : List Int} {k : Nat} (h : p (xs.getD k 0) = false) : marksOf p xs (k + 1) = marksOf p xs k := by rw [marksOf, if_neg (by rw [h]; decide), List.append_nil]
/-- the least of the first k + 1 -/
def least (xs : List Int) : Nat → Int
  | 0 => xs.getD 0 0
  | k + 1 => min (least xs k) (xs.getD (k + 1) 0)

/-- how many of the first k are below -/
def below (y : Int) (xs : List Int) : Nat → Int
  | 0 => 0
  | k + 1 => below y xs k + if xs.getD k 0 < y then 1 else 0
theorem below_bd (y : Int) (xs : List Int) (k : Nat) : 0 ≤ below y xs k ∧ below y xs k ≤ k := by
  induction k with
  | zero => simp [below]
  | succ k ih => simp only [below]; split <;> omega
theorem below_yes {y : Int} {xs : List Int} {k : Nat} (h : xs.getD k 0 < y) : below y xs (k + 1) = below y xs k + 1 := by rw [below, if_pos h]
theorem below_no {y : Int} {xs : List Int} {k : Nat} (h : ¬ xs.getD k 0 < y) : below y xs (k + 1) = below y xs k := by rw [below, if_neg h]; omega

/-- the water of the first k -/
def vol (y : Int) (xs : List Int) : Nat → Int
  | 0 => 0
  | k + 1 => vol y xs k + max 0 (y - xs.getD k 0)
theorem vol_bd (y : Int) (xs : List Int) (k : Nat) (hy : lvl y) (h : ∀ j, j < k → -2000 ≤ xs.getD j 0 ∧ xs.getD j 0 ≤ 2000) : 0 ≤ vol y xs k ∧ vol y xs k ≤ 4000 * k := by
  induction k with
  | zero => simp [vol]
  | succ k ih =>
    have h1 := ih (fun j hj => h j (by omega))
    have h2 := h k (by omega)
    obtain ⟨a, b⟩ := hy
    simp only [vol]
    omega



end Go.Proofs.Ytcimigaimlojlaa
