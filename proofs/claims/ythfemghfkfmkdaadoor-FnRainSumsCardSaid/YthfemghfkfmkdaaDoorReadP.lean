/- ReadLevel of the program: the parts of a text. -/
import Derived.Test.YthfemghfkfmkdaaDoorReadL
import Derived.Test.YthfemghfkfmkdaaDoorNumI
import Derived.Test.YthfemghfkfmkdaaDoorWFnExactReadDecimal
namespace Go.Proofs.YthfemghfkfmkdaaDoor
open Go.RowKit

/-- the first sign b in a list -/
theorem index_app (b : UInt8) : ∀ (x y : List UInt8), (∀ c ∈ x, c ≠ b) → Lib.index (x ++ b :: y) [b] = (x.length : Int) := by
  intro x
  induction x with
  | nil => intro y _; show Lib.index (b :: y) [b] = 0; unfold Lib.index; rw [if_pos (by simp [List.isPrefixOf])]
  | cons c t ih =>
    intro y h
    show Lib.index (c :: (t ++ b :: y)) [b] = _
    unfold Lib.index
    have hc : (b == c) = false := by simpa using fun e : b = c => h c List.mem_cons_self e.symm
    rw [if_neg (by simp [List.isPrefixOf, hc]), ih y (fun d hd => h d (List.mem_cons_of_mem _ hd))]
    rw [if_neg (by first | (simp; done) | (simp; omega))]
    simp
theorem index_no (b : UInt8) : ∀ (x : List UInt8), (∀ c ∈ x, c ≠ b) → Lib.index x [b] = -1 := by
  intro x
  induction x with
  | nil => intro _; rfl
  | cons c t ih =>
    intro h
    unfold Lib.index
    have hc : (b == c) = false := by simpa using fun e : b = c => h c List.mem_cons_self e.symm
    rw [if_neg (by simp [List.isPrefixOf, hc]), ih (fun d hd => h d (List.mem_cons_of_mem _ hd))]
    rfl
theorem cut_app (b : UInt8) (x y : List UInt8) (h : ∀ c ∈ x, c ≠ b) : Lib.cut (x ++ b :: y) [b] = (x, y, true) := by
  unfold Lib.cut
  rw [index_app b x y h, if_pos (by omega)]
  simp
theorem cut_no (b : UInt8) (x : List UInt8) (h : ∀ c ∈ x, c ≠ b) : Lib.cut x [b] = (x, [], false) := by
  unfold Lib.cut
  rw [index_no b x h, if_neg (by omega)]
/-- a list has a first sign b, or none -/
theorem first_or (b : UInt8) : ∀ l : List UInt8, (∃ x y, l = x ++ b :: y ∧ ∀ c ∈ x, c ≠ b) ∨ ∀ c ∈ l, c ≠ b := by
  intro l
  induction l with
  | nil => exact .inr fun c hc => by cases hc
  | cons c t ih =>
    by_cases h : c = b
    · exact .inl ⟨[], t, by rw [h]; rfl, fun d hd => by cases hd⟩
    · rcases ih with ⟨x, y, rfl, hx⟩ | hn
      · exact .inl ⟨c :: x, y, rfl, fun d hd => by
          rcases List.mem_cons.1 hd with rfl | hd
          · exact h
          · exact hx d hd⟩
      · exact .inr fun d hd => by
          rcases List.mem_cons.1 hd with rfl | hd
          · exact h
          · exact hn d hd
theorem suffix_one (b : UInt8) (l : List UInt8) : Lib.hasSuffix (l ++ [b]) [b] = true ∧ Lib.trimSuffix (l ++ [b]) [b] = l := by
  have h : Lib.hasSuffix (l ++ [b]) [b] = true := by
    unfold Lib.hasSuffix
    simp [List.isSuffixOf]
  refine ⟨h, ?_⟩
  unfold Lib.trimSuffix
  rw [if_pos h]
  simp
theorem suffix_or (b : UInt8) (l : List UInt8) : (∃ t, l = t ++ [b]) ∨ Lib.hasSuffix l [b] = false := by
  rcases List.eq_nil_or_concat l with rfl | ⟨t, c, rfl⟩
  · exact .inr rfl
  · by_cases h : c = b
    · exact .inl ⟨t, by rw [h, List.concat_eq_append]⟩
    · right
      unfold Lib.hasSuffix
      have : ¬ b = c := fun e => h e.symm
      simp [List.isSuffixOf, List.isPrefixOf, this]
end Go.Proofs.YthfemghfkfmkdaaDoor
