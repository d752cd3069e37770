/- SplitWords, both sides: the parts between bytes, and the words. -/
import Derived.Test.YthfemghfkfmkdaaDoorWordsP
import Derived.Test.YthfemghfkfmkdaaDoorStrs
import Derived.Test.YthfemghfkfmkdaaDoorShelf
namespace Go.Proofs.YthfemghfkfmkdaaDoor
open Go.RowKit Go.Shelf

theorem bt_eq (s : ByteArray) (i : Nat) (h : i < s.size) : bt s i = s[i].toNat := by
  unfold bt
  show (s.data[i]!).toNat = _
  rw [getElem!_pos s.data i h]
  rfl
def ext (s : ByteArray) (x : Nat × Nat) : ByteArray := s.extract x.1 x.2
def parts (s : ByteArray) (b : Nat) : List ByteArray := (cutsOf s b).map (ext s)
def wordsOf (s : ByteArray) : List ByteArray := ((cutsOf s 32).filter full).map (ext s)
theorem cuts_len (s : ByteArray) (b : Nat) : ∀ (g i a : Nat), (cuts s b g i a).length ≤ g + 1 := by
  intro g
  induction g with
  | zero => intro i a; simp [cuts]
  | succ g ih =>
    intro i a
    have h1 := ih (i + 1) (i + 1)
    have h2 := ih (i + 1) a
    unfold cuts
    split
    · simp only [List.length_cons]; omega
    · omega
theorem parts_len (s : ByteArray) (b : Nat) : (parts s b).length ≤ s.size + 1 := by rw [parts, List.length_map]; exact cuts_len s b _ _ _
theorem wordsOf_len (s : ByteArray) : (wordsOf s).length ≤ s.size + 1 := by
  rw [wordsOf, List.length_map]
  exact Nat.le_trans (List.length_filter_le _ _) (cuts_len s 32 _ _ _)
theorem cuts_bd (s : ByteArray) (b : Nat) : ∀ (g i a : Nat), a ≤ i → i + g = s.size → ∀ x, x ∈ cuts s b g i a → x.1 ≤ x.2 ∧ x.2 ≤ s.size := by
  intro g
  induction g with
  | zero => intro i a h1 h2 x hx; simp [cuts] at hx; subst hx; exact ⟨by show a ≤ s.size; omega, Nat.le_refl _⟩
  | succ g ih =>
    intro i a h1 h2 x hx
    unfold cuts at hx
    split at hx
    · rcases List.mem_cons.1 hx with rfl | hx
      · exact ⟨h1, by show i ≤ s.size; omega⟩
      · exact ih (i + 1) (i + 1) (Nat.le_refl _) (by omega) x hx
    · exact ih (i + 1) a (by omega) (by omega) x hx
theorem ext_empty {s : ByteArray} {x : Nat × Nat} (h : x.1 ≤ x.2 ∧ x.2 ≤ s.size) : ext s x = ⟨#[]⟩ ↔ full x = false := by
  have hz : (ext s x).size = x.2 - x.1 := by unfold ext; rw [ByteArray.size_extract]; omega
  constructor
  · intro e
    rw [e] at hz
    have : (0 : Nat) = x.2 - x.1 := hz
    unfold full
    simp
    omega
  · intro e
    unfold full at e
    simp at e
    have h0 : (ext s x).size = 0 := by omega
    generalize ext s x = y at h0
    apply bytes_ext
    have : y.data.toList.length = 0 := by simpa using h0
    simpa using List.length_eq_zero_iff.1 this
theorem words_filter (s : ByteArray) : wordsOf s = (parts s 32).filter fun y => decide (y ≠ ⟨#[]⟩) := by
  unfold wordsOf parts
  rw [List.filter_map]
  congr 1
  apply List.filter_congr
  intro x hx
  have hb := cuts_bd s 32 s.size 0 0 (Nat.le_refl _) (by omega) x hx
  have := ext_empty hb
  simp only [Function.comp]
  by_cases hf : full x = true
  · rw [hf]
    have hne : ext s x ≠ ⟨#[]⟩ := fun e => by rw [this.1 e] at hf; cases hf
    simp [hne]
  · have hf2 : full x = false := by simpa using hf
    rw [hf2, this.2 hf2]
    simp

theorem cuts_no (s : ByteArray) (b : Nat) : ∀ (g i a : Nat), a ≤ i → i + g = s.size → (∀ j, a ≤ j → j < i → bt s j ≠ b) → ∀ x, x ∈ cuts s b g i a → x.2 ≤ s.size ∧ ∀ j, x.1 ≤ j → j < x.2 → bt s j ≠ b := by
  intro g
  induction g with
  | zero =>
    intro i a h1 h2 h3 x hx
    simp [cuts] at hx
    subst hx
    exact ⟨Nat.le_refl _, fun j h4 h5 => h3 j h4 (by have : j < s.size := h5; omega)⟩
  | succ g ih =>
    intro i a h1 h2 h3 x hx
    unfold cuts at hx
    split at hx
    · rcases List.mem_cons.1 hx with rfl | hx
      · exact ⟨by show i ≤ s.size; omega, fun j h4 h5 => h3 j h4 h5⟩
      · exact ih (i + 1) (i + 1) (Nat.le_refl _) (by omega) (fun j h4 h5 => by omega) x hx
    · rename_i hne
      exact ih (i + 1) a (by omega) (by omega) (fun j h4 h5 => by
        by_cases e : j = i
        · subst e; exact hne
        · exact h3 j h4 (by omega)) x hx
theorem ext_at (s : ByteArray) (x : Nat × Nat) (h : x.2 ≤ s.size) (j : Nat) (hj : j < (ext s x).size) : ((ext s x)[j]).toNat = bt s (x.1 + j) ∧ x.1 + j < x.2 := by
  have hz : (ext s x).size = x.2 - x.1 := by unfold ext; rw [ByteArray.size_extract]; omega
  refine ⟨?_, by omega⟩
  rw [bt_eq s (x.1 + j) (by omega)]
  congr 1
  unfold ext
  exact ByteArray.getElem_extract ..
theorem words_sz (s : ByteArray) : ∀ y, y ∈ wordsOf s → y.size ≤ s.size := by
  intro y hy
  obtain ⟨x, hx, rfl⟩ := List.mem_map.1 hy
  have hb := cuts_bd s 32 s.size 0 0 (Nat.le_refl _) (by omega) x (List.mem_filter.1 hx).1
  unfold ext
  rw [ByteArray.size_extract]
  omega
theorem words_no (s : ByteArray) : ∀ y, y ∈ wordsOf s → y ≠ ⟨#[]⟩ ∧ ∀ j (h : j < y.size), y[j].toNat ≠ 32 := by
  intro y hy
  obtain ⟨x, hx, rfl⟩ := List.mem_map.1 hy
  obtain ⟨hx1, hx2⟩ := List.mem_filter.1 hx
  have hb := cuts_bd s 32 s.size 0 0 (Nat.le_refl _) (by omega) x hx1
  obtain ⟨h1, h2⟩ := cuts_no s 32 s.size 0 0 (Nat.le_refl _) (by omega) (fun j h4 h5 => by omega) x hx1
  refine ⟨fun e => ?_, fun j hj => ?_⟩
  · rw [(ext_empty hb).1 e] at hx2
    cases hx2
  · obtain ⟨e1, e2⟩ := ext_at s x h1 j hj
    rw [e1]
    exact h2 _ (by omega) e2
end Go.Proofs.YthfemghfkfmkdaaDoor
