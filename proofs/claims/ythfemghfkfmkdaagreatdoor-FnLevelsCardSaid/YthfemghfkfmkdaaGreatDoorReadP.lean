/- ReadLevel of the program: the parts of a text. -/
import Derived.Test.YthfemghfkfmkdaaGreatDoorReadL
import Derived.Test.YthfemghfkfmkdaaGreatDoorNumI
import Derived.Test.YthfemghfkfmkdaaGreatDoorWFnExactReadDecimal
namespace Go.Proofs.YthfemghfkfmkdaaGreatDoor
open Go.RowKit

/-- the first sign b in a list -/
theorem index_app (b : UInt8) : ∀ (x y : List UInt8), (∀ c ∈ x, c ≠ b) → Lib.index (x ++ b :: y) [b] = (x.length : Int) := by
  intro x
  induction x with
  | nil => intro y _; show Lib.index (b :: y) [b] = 0; unfold Lib.index; rw [if_pos (by simp [List.isPrefixOf])]
  | cons c t ih =>
    intro y h
    show Lib.index (c :: (t ++ b :: y)) [b] = _
    unfold Lib.index
    have hc : (b == c) = false := by simpa using fun e : b = c => h c List.mem_cons_self e.symm
    rw [if_neg (by simp [List.isPrefixOf, hc]), ih y (fun d hd => h d (List.mem_cons_of_mem _ hd))]
    rw [if_neg (by first | (simp; done) | (simp; omega))]
    simp
theorem index_no (b : UInt8) : ∀ (x : List UInt8), (∀ c ∈ x, c ≠ b) → Lib.index x [b] = -1 := by
  intro x
  induction x with
  | nil => intro _; rfl
  | cons c t ih =>
    intro h
    unfold Lib.index
    have hc : (b == c) = false := by simpa using fun e : b = c => h c List.mem_cons_self e.symm
    rw [if_neg (by simp [List.isPrefixOf, hc]), ih (fun d hd => h d (List.mem_cons_of_mem _ hd))]
    rfl
theorem cut_app (b : UInt8) (x y : List UInt8) (h : ∀ c ∈ x, c ≠ b) : Lib.cut (x ++ b :: y) [b] = (x, y, true) := by
  unfold Lib.cut
  rw [index_app b x y h, if_pos (by omega)]
  simp
theorem cut_no (b : UInt8) (x : List UInt8) (h : ∀ c ∈ x, c ≠ b) : Lib.cut x [b] = (x, [], false) := by
  unfold Lib.cut
  rw [index_no b x h, if_neg (by omega)]
/-- a list has a first sign b, or none -/
theorem first_or (b : UInt8) : ∀ l : List UInt8, (∃ x y, l = x ++ b :: y ∧ ∀ c ∈ x, c ≠ b) ∨ ∀ c ∈ l, c ≠ b := by
  intro l
  induction l with
  | nil => exact .inr fun c hc => by cases hc
  | cons c t ih =>
    by_cases h : c = b
    · exact .inl ⟨[], t, by rw [h]; rfl, fun d hd => by cases hd⟩
    · rcases ih with ⟨x, y, rfl, hx⟩ | hn
      · exact .inl ⟨c :: x, y, rfl, fun d hd => by
          rcases List.mem_cons.1 hd with rfl | hd
          · exact h
          · exact hx d hd⟩
      · exact .inr fun d hd => by
          rcases List.mem_cons.1 hd with rfl | hd
          · exact h
          · exact hn d hd
theorem suffix_one (b : UInt8) (l : List UInt8) : Lib.hasSuffix (l ++ [b]) [b] = true ∧ Lib.trimSuffix (l ++ [b]) [b] = l := by
  have h : Lib.hasSuffix (l ++ [b]) [b] = true := by
    unfold Lib.hasSuffix
    simp [List.isSuffixOf]
  refine ⟨h, ?_⟩
  unfold Lib.trimSuffix
  rw [if_pos h]
  simp
theorem suffix_or (b : UInt8) (l : List UInt8) : (∃ t, l = t ++ [b]) ∨ Lib.hasSuffix l [b] = false := by
  rcases List.eq_nil_or_concat l with rfl | ⟨t, c, rfl⟩
  · exact .inr rfl
  · by_cases h : c = b
    · exact .inl ⟨t, by rw [h, List.concat_eq_append]⟩
    · right
      unfold Lib.hasSuffix
      have : ¬ b = c := fun e => h e.symm
      simp [List.isSuffixOf, List.isPrefixOf, this]

/-- a text in the form of a level's: a sign (any one), a number, a point, two digits, m -/
def LvForm (s : ByteArray) (c0 : UInt8) (rest : List UInt8) (m : Int) (a b : UInt8) : Prop :=
  s.data.toList = ((c0 :: rest) ++ 46 :: [a, b]) ++ [109] ∧ (∀ c ∈ c0 :: rest, c ≠ 46) ∧ DecOf rest m ∧ dig a ∧ dig b
theorem LvForm.inj {s : ByteArray} {c0 c0' : UInt8} {rest rest' : List UInt8} {m m' : Int} {a a' b b' : UInt8} (h : LvForm s c0 rest m a b) (k : LvForm s c0' rest' m' a' b') : c0 = c0' ∧ m = m' ∧ a = a' ∧ b = b' := by
  have e := h.1.symm.trans k.1
  have e1 := List.append_cancel_right e
  have q1 := cut_app 46 (c0 :: rest) [a, b] h.2.1
  have q2 := cut_app 46 (c0' :: rest') [a', b'] k.2.1
  rw [e1] at q1
  have q3 := q1.symm.trans q2
  injection q3 with z1 z2
  injection z1 with z3 z4
  injection z2 with z5 _
  injection z5 with z6 z7
  injection z7 with z8 _
  subst z4
  exact ⟨z3, h.2.2.1.inj k.2.2.1, z6, z8⟩
/-- a level's text has the form -/
theorem lv_form {n : Int} {s : ByteArray} (hn : isLv n) (h : s = levelB n) : LvForm s (if n < 0 then 45 else 43) (Lib.decDigits (n.natAbs / 100)) ((n.natAbs / 100 : Nat) : Int) (UInt8.ofNat (48 + n.natAbs % 100 / 10)) (UInt8.ofNat (48 + n.natAbs % 10)) := by
  have hL : s.data.toList = levL n := by rw [h]; exact levelB_list n
  have k := lv_ok hn h
  have t1 := ofNat_dig (n.natAbs % 100 / 10) (by omega)
  have t2 := ofNat_dig (n.natAbs % 10) (by omega)
  refine ⟨by rw [hL]; unfold levL; simp, fun c hc => ?_, k.nu, by unfold dig; omega, by unfold dig; omega⟩
  rcases List.mem_cons.1 hc with rfl | hc
  · split <;> decide
  · intro e
    have := dig_ne _ c hc
    rw [e] at this
    exact this rfl
/-- where the reckoned parts are the level's own, the text is the level's -/
theorem lv_back {s : ByteArray} {c0 : UInt8} {rest : List UInt8} {m n : Int} {a b : UInt8} (k : LvForm s c0 rest m a b) (hs : signB n = mkB [c0]) (hm : m = ((n.natAbs / 100 : Nat) : Int)) (hc : 10 * ((a.toNat : Int) - 48) + ((b.toNat : Int) - 48) = ((n.natAbs % 100 : Nat) : Int)) : s = levelB n := by
  apply bytes_ext
  rw [levelB_list, k.1]
  have hsg : c0 = if n < 0 then 45 else 43 := by
    unfold signB mkB at hs
    split at hs
    · rename_i hneg
      rw [if_pos hneg]
      simpa using hs.symm
    · rename_i hneg
      rw [if_neg hneg]
      simpa using hs.symm
  have hr : rest = Lib.decDigits (n.natAbs / 100) := by
    have q := k.2.2.1.1
    rw [q, hm]
    unfold Lib.itoa
    rw [if_neg (by omega)]
    rfl
  obtain ⟨a1, a2⟩ := k.2.2.2.1
  obtain ⟨b1, b2⟩ := k.2.2.2.2
  have ha : a = UInt8.ofNat (48 + n.natAbs % 100 / 10) := by
    apply UInt8.toNat_inj.1
    rw [ofNat_dig _ (by omega)]
    omega
  have hb : b = UInt8.ofNat (48 + n.natAbs % 10) := by
    apply UInt8.toNat_inj.1
    rw [ofNat_dig _ (by omega)]
    omega
  unfold levL
  rw [← hsg, ← hr, ← ha, ← hb]
  simp

end Go.Proofs.YthfemghfkfmkdaaGreatDoor
