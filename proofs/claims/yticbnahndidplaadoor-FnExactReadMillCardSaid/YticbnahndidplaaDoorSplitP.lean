/- Parts of a text between signs, as lists: splitting and joining; no function of the program in it. -/
import Derived.Test.YticbnahndidplaaDoorWords
namespace Go.Proofs.YticbnahndidplaaDoor
open Go.RowKit

def mkB (l : List UInt8) : ByteArray := ⟨l.toArray⟩
/-- the parts of a list between signs b -/
def splitL (b : Nat) : List UInt8 → List (List UInt8)
  | [] => [[]]
  | c :: t => if c.toNat = b then [] :: splitL b t else match splitL b t with
    | h :: r => (c :: h) :: r
    | [] => [[c]]
theorem splitL_ne (b : Nat) : ∀ l, splitL b l ≠ [] := by
  intro l
  induction l with
  | nil => simp [splitL]
  | cons c t ih =>
    unfold splitL
    split
    · simp
    · split <;> simp
def joinL (b : UInt8) : List (List UInt8) → List UInt8
  | [] => []
  | [x] => x
  | x :: y :: r => x ++ b :: joinL b (y :: r)
theorem join_split (b : UInt8) : ∀ l, joinL b (splitL b.toNat l) = l := by
  intro l
  induction l with
  | nil => rfl
  | cons c t ih =>
    unfold splitL
    by_cases h : c.toNat = b.toNat
    · rw [if_pos h]
      have hc : c = b := UInt8.toNat_inj.1 h
      cases hs : splitL b.toNat t with
      | nil => exact absurd hs (splitL_ne _ _)
      | cons x r =>
        rw [hs] at ih
        show [] ++ b :: joinL b (x :: r) = c :: t
        rw [ih, hc]
        rfl
    · rw [if_neg h]
      cases hs : splitL b.toNat t with
      | nil => exact absurd hs (splitL_ne _ _)
      | cons x r =>
        rw [hs] at ih
        cases r with
        | nil => show c :: x = c :: t; rw [show x = t from ih]
        | cons y r => show (c :: x) ++ b :: joinL b (y :: r) = c :: t; rw [← ih]; rfl
theorem split_no (b : Nat) : ∀ l x, x ∈ splitL b l → ∀ c ∈ x, c.toNat ≠ b := by
  intro l
  induction l with
  | nil => intro x hx c hc; simp [splitL] at hx; subst hx; cases hc
  | cons c t ih =>
    intro x hx d hd
    unfold splitL at hx
    split at hx
    · rcases List.mem_cons.1 hx with rfl | hx
      · cases hd
      · exact ih x hx d hd
    · rename_i hne
      split at hx
      · rename_i h r hs
        rcases List.mem_cons.1 hx with rfl | hx
        · rcases List.mem_cons.1 hd with rfl | hd
          · exact hne
          · exact ih h (by rw [hs]; exact List.mem_cons_self) d hd
        · exact ih x (by rw [hs]; exact List.mem_cons_of_mem _ hx) d hd
      · simp at hx
        subst hx
        simp at hd
        subst hd
        exact hne
theorem split_plain (b : Nat) : ∀ x, (∀ c ∈ x, c.toNat ≠ b) → splitL b x = [x] := by
  intro x
  induction x with
  | nil => intro _; rfl
  | cons c t ih =>
    intro h
    unfold splitL
    rw [if_neg (h c List.mem_cons_self), ih (fun d hd => h d (List.mem_cons_of_mem _ hd))]
theorem split_app (b : UInt8) : ∀ x l, (∀ c ∈ x, c.toNat ≠ b.toNat) → splitL b.toNat (x ++ b :: l) = x :: splitL b.toNat l := by
  intro x
  induction x with
  | nil => intro l _; show splitL _ (b :: l) = _; rw [splitL, if_pos rfl]
  | cons c t ih =>
    intro l h
    show splitL _ (c :: (t ++ b :: l)) = _
    rw [splitL, if_neg (h c List.mem_cons_self), ih l (fun d hd => h d (List.mem_cons_of_mem _ hd))]
theorem split_join (b : UInt8) : ∀ ws, ws ≠ [] → (∀ w ∈ ws, ∀ c ∈ w, c.toNat ≠ b.toNat) → splitL b.toNat (joinL b ws) = ws := by
  intro ws
  induction ws with
  | nil => intro h; exact absurd rfl h
  | cons x r ih =>
    intro _ h
    cases r with
    | nil => exact split_plain _ x (h x List.mem_cons_self)
    | cons y r =>
      show splitL _ (x ++ b :: joinL b (y :: r)) = _
      rw [split_app b x _ (h x List.mem_cons_self), ih (by simp) (fun w hw => h w (List.mem_cons_of_mem _ hw))]
theorem split_two (b : UInt8) (l x y : List UInt8) : splitL b.toNat l = [x, y] ↔ l = x ++ b :: y ∧ (∀ c ∈ x, c.toNat ≠ b.toNat) ∧ ∀ c ∈ y, c.toNat ≠ b.toNat := by
  constructor
  · intro h
    have hj := join_split b l
    rw [h] at hj
    exact ⟨hj.symm, split_no _ l x (by rw [h]; simp), split_no _ l y (by rw [h]; simp)⟩
  · rintro ⟨rfl, hx, hy⟩
    rw [split_app b x y hx, split_plain _ y hy]
/-- a list in front of the first part -/
def glue (p : ByteArray) : List ByteArray → List ByteArray
  | [] => []
  | h :: r => (p ++ h) :: r
theorem ext_snoc (s : ByteArray) (a i : Nat) (ha : a ≤ i) (hi : i < s.size) (h : ByteArray) : s.extract a i ++ (mkB [s[i]] ++ h) = s.extract a (i + 1) ++ h := by
  apply bytes_ext
  simp only [ByteArray.data_append, Array.toList_append, ByteArray.data_extract, Array.toList_extract, mkB]
  rw [← List.append_assoc]
  congr 1
  simp only [List.extract_eq_take_drop] 
  rw [show i + 1 - a = (i - a) + 1 by omega, List.take_succ_eq_append_getElem (by rw [List.length_drop]; show i - a < s.size - a; omega)]
  congr 1
  simp
  have e : a + (i - a) = i := by omega
  show s.data[i] = _
  simp only [e]
theorem cuts_split (s : ByteArray) (b : Nat) : ∀ (g i a : Nat), a ≤ i → i + g = s.size → (cuts s b g i a).map (ext s) = glue (s.extract a i) ((splitL b (s.data.toList.drop i)).map mkB) := by
  intro g
  induction g with
  | zero =>
    intro i a ha hi
    obtain rfl : i = s.size := by omega
    have hd : s.data.toList.drop s.size = [] := List.drop_eq_nil_of_le (by show s.data.toList.length ≤ s.data.size; simp)
    rw [hd]
    simp [cuts, splitL, glue, ext, mkB]
    apply bytes_ext
    simp [ByteArray.data_append]
  | succ g ih =>
    intro i a ha hi
    have hlt : i < s.size := by omega
    have hd : s.data.toList.drop i = s[i] :: s.data.toList.drop (i + 1) := by
      rw [List.drop_eq_getElem_cons (by show i < s.data.toList.length; simpa using hlt)]
      rfl
    rw [hd]
    unfold cuts splitL
    rw [bt_eq s i hlt]
    by_cases h : s[i].toNat = b
    · rw [if_pos h, if_pos h, List.map_cons, ih (i + 1) (i + 1) (Nat.le_refl _) (by omega)]
      simp only [List.map_cons, glue]
      congr 1
      · unfold ext
        apply bytes_ext
        simp [ByteArray.data_append, mkB]
      · cases hs : splitL b (s.data.toList.drop (i + 1)) with
        | nil => exact absurd hs (splitL_ne _ _)
        | cons x r =>
          simp only [List.map_cons]
          congr 1
          apply bytes_ext
          simp
    · rw [if_neg h, if_neg h, ih (i + 1) a (by omega) (by omega)]
      cases hs : splitL b (s.data.toList.drop (i + 1)) with
      | nil => exact absurd hs (splitL_ne _ _)
      | cons x r =>
        simp only [List.map_cons, glue]
        congr 1
        rw [← ext_snoc s a i ha hlt (mkB x)]
        first | done | (congr 1; first | done | (apply bytes_ext; simp [ByteArray.data_append, mkB]))
theorem parts_split (s : ByteArray) (b : Nat) : parts s b = (splitL b s.data.toList).map mkB := by
  unfold parts cutsOf
  rw [cuts_split s b s.size 0 0 (Nat.le_refl _) (by omega), List.drop_zero]
  cases hs : splitL b s.data.toList with
  | nil => exact absurd hs (splitL_ne _ _)
  | cons x r =>
    simp only [List.map_cons, glue]
    congr 1
    apply bytes_ext
    simp [ByteArray.data_append]

end Go.Proofs.YticbnahndidplaaDoor
