/- Words of a text: what the spans between blanks are; no function of the program in it. -/
import Derived.Lib.FieldsP
import Derived.Test.YticbnahndidplaaDoorBase
namespace Go.Proofs.YticbnahndidplaaDoor
open Go.RowKit Go.Lib

/-- the byte at a place -/
def bt (s : ByteArray) (i : Nat) : Nat := (s.get! i).toNat

theorem dec_sp (s : ByteArray) (pos : Nat) (h : pos < s.size) :
    ((Utf8.decode s pos).1 = 32 ↔ bt s pos = 32) ∧ 1 ≤ (Utf8.decode s pos).2 ∧ pos + (Utf8.decode s pos).2 ≤ s.size ∧ (bt s pos = 32 → (Utf8.decode s pos).2 = 1) ∧ ∀ j, 0 < j → j < (Utf8.decode s pos).2 → bt s (pos + j) ≠ 32 := by
  unfold bt
  have e0 : s.get! pos = s.get! (pos + 0) := rfl
  unfold Utf8.decode
  simp only [e0]
  split
  · rename_i h0
    simp only
    exact ⟨(by first | trivial | exact Iff.rfl), by omega, by omega, fun _ => trivial, fun j h1 h2 => by omega⟩
  · rename_i h0
    split
    · rename_i h1
      simp only [Bool.and_eq_true, beq_iff_eq, decide_eq_true_eq] at h1
      split
      · rename_i h2
        simp only
        refine ⟨⟨fun e => by omega, fun e => by omega⟩, by omega, by omega, fun e => by omega, fun j h3 h4 => ?_⟩
        obtain rfl : j = 1 := by omega
        omega
      · simp only [Utf8.runeError]
        exact ⟨⟨fun e => by omega, fun e => by omega⟩, by omega, by omega, fun e => by omega, fun j h1 h2 => by omega⟩
    · split
      · rename_i h1
        simp only [Bool.and_eq_true, beq_iff_eq, decide_eq_true_eq] at h1
        split
        · rename_i h2
          simp only [Bool.and_eq_true, decide_eq_true_eq] at h2
          simp only
          refine ⟨⟨fun e => by omega, fun e => by omega⟩, by omega, by omega, fun e => by omega, fun j h3 h4 => ?_⟩
          rcases (show j = 1 ∨ j = 2 by omega) with rfl | rfl <;> omega
        · simp only [Utf8.runeError]
          exact ⟨⟨fun e => by omega, fun e => by omega⟩, by omega, by omega, fun e => by omega, fun j h1 h2 => by omega⟩
      · split
        · rename_i h1
          simp only [Bool.and_eq_true, beq_iff_eq, decide_eq_true_eq] at h1
          split
          · rename_i h2
            simp only [Bool.and_eq_true, decide_eq_true_eq] at h2
            simp only
            refine ⟨⟨fun e => by omega, fun e => by omega⟩, by omega, by omega, fun e => by omega, fun j h3 h4 => ?_⟩
            rcases (show j = 1 ∨ j = 2 ∨ j = 3 by omega) with rfl | rfl | rfl <;> omega
          · simp only [Utf8.runeError]
            exact ⟨⟨fun e => by omega, fun e => by omega⟩, by omega, by omega, fun e => by omega, fun j h1 h2 => by omega⟩
        · simp only [Utf8.runeError]
          exact ⟨⟨fun e => by omega, fun e => by omega⟩, by omega, by omega, fun e => by omega, fun j h1 h2 => by omega⟩

/-- the spans between bytes 'by': from place i on, the running one began at a -/
def cuts (s : ByteArray) (by_ : Nat) : Nat → Nat → Nat → List (Nat × Nat)
  | 0, _, a => [(a, s.size)]
  | f + 1, i, a => if bt s i = by_ then (a, i) :: cuts s by_ f (i + 1) (i + 1) else cuts s by_ f (i + 1) a
def cutsOf (s : ByteArray) (by_ : Nat) : List (Nat × Nat) := cuts s by_ s.size 0 0
def full (x : Nat × Nat) : Bool := decide (x.1 < x.2)

/-- what the program's spans are: the full ones -/
theorem spans_cuts (s : ByteArray) : ∀ (f pos a : Nat) (st : Option Nat) (acc : List (Nat × Nat)) (g : Nat), a ≤ pos → pos + g = s.size → g ≤ f → st = (if a < pos then some a else none) →
    closeSpans s (spansFromP (fun r => r == 32) s f pos st acc) = acc ++ (cuts s 32 g pos a).filter full := by
  intro f
  induction f with
  | zero =>
    intro pos a st acc g ha hg hf hst
    obtain rfl : g = 0 := by omega
    subst hst
    simp only [spansFromP, cuts]
    by_cases h : a < pos
    · rw [if_pos h]
      simp [closeSpans, full, show a < s.size by omega]
    · rw [if_neg h]
      simp [closeSpans, full, show ¬ a < s.size by omega]
  | succ f ih =>
    intro pos a st acc g ha hg hf hst
    by_cases hp : pos < s.size
    · obtain ⟨d1, d2, d3, d4, d5⟩ := dec_sp s pos hp
      have skip : ∀ k, 0 < k → k ≤ (Utf8.decode s pos).2 → bt s pos ≠ 32 → cuts s 32 g pos a = cuts s 32 (g - k) (pos + k) a := by
        intro k
        induction k with
        | zero => intro h; omega
        | succ k ihk =>
          intro _ hk hne
          rcases Nat.eq_zero_or_pos k with rfl | hk0
          · obtain ⟨q, rfl⟩ : ∃ q, g = q + 1 := ⟨g - 1, by omega⟩
            rw [cuts, if_neg hne]
            rfl
          · rw [ihk hk0 (by omega) hne]
            obtain ⟨q, hq⟩ : ∃ q, g - k = q + 1 := ⟨g - k - 1, by omega⟩
            rw [hq, cuts, if_neg (d5 k hk0 (by omega)), show g - (k + 1) = q by omega]
            rfl
      simp only [spansFromP, if_pos hp]
      by_cases hb : bt s pos = 32
      · have hr : ((Utf8.decode s pos).1 == 32) = true := by simpa using d1.2 hb
        rw [if_pos hr, d4 hb]
        obtain ⟨q, rfl⟩ : ∃ q, g = q + 1 := ⟨g - 1, by omega⟩
        rw [cuts, if_pos hb, List.filter_cons]
        subst hst
        by_cases h : a < pos
        · rw [if_pos h]
          simp only
          rw [ih (pos + 1) (pos + 1) none _ q (Nat.le_refl _) (by omega) (by omega) (by rw [if_neg (Nat.lt_irrefl _)])]
          simp [full, h]
        · rw [if_neg h]
          simp only
          rw [ih (pos + 1) (pos + 1) none _ q (Nat.le_refl _) (by omega) (by omega) (by rw [if_neg (Nat.lt_irrefl _)])]
          simp [full, h]
      · have hr : ¬ ((Utf8.decode s pos).1 == 32) = true := by simpa using fun e => hb (d1.1 e)
        rw [if_neg hr, skip _ (by omega) (Nat.le_refl _) hb]
        subst hst
        by_cases h : a < pos
        · rw [if_pos h]
          simp only
          exact ih _ a _ _ _ (by omega) (by omega) (by omega) (by rw [if_pos (by omega)])
        · rw [if_neg h]
          simp only
          obtain rfl : a = pos := by omega
          exact ih _ a _ _ _ (by omega) (by omega) (by omega) (by rw [if_pos (by omega)])
    · obtain rfl : g = 0 := by omega
      rw [spansFromP_end _ _ _ _ _ _ hp]
      subst hst
      simp only [cuts]
      by_cases h : a < pos
      · rw [if_pos h]
        simp [closeSpans, full, show a < s.size by omega]
      · rw [if_neg h]
        simp [closeSpans, full, show ¬ a < s.size by omega]
theorem words_cuts (s : ByteArray) : goFieldsP (fun r => r == 32) s = ((cutsOf s 32).filter full).map fun x => s.extract x.1 x.2 := by
  unfold goFieldsP spansOfP cutsOf
  rw [spans_cuts s s.size 0 0 none [] s.size (Nat.le_refl _) (by omega) (Nat.le_refl _) rfl]
  rfl

end Go.Proofs.YticbnahndidplaaDoor
