/- Levels out of texts: the model. -/
import Derived.Test.YthfemghfkfmkdaaGreatDoorSplitP
import Derived.Test.YthfemghfkfmkdaaGreatDoorNumS
import Derived.Test.YthfemghfkfmkdaaGreatDoorChars
import Derived.Test.YthfemghfkfmkdaaGreatDoorWFnExactLevelText
namespace Go.Proofs.YthfemghfkfmkdaaGreatDoor
open Go.RowKit

/-- the text of a level, as a list -/
def levL (n : Int) : List UInt8 := (if n < 0 then 45 else 43) :: (Lib.decDigits (n.natAbs / 100) ++ 46 :: [UInt8.ofNat (48 + n.natAbs % 100 / 10), UInt8.ofNat (48 + n.natAbs % 10), 109])
theorem dec1 (u : Nat) (h : u < 10) : Lib.decDigits u = [UInt8.ofNat (48 + u)] := by rw [Lib.decDigits, dif_pos h]
theorem dec_len2 (u : Nat) (h : u ≤ 20) : 1 ≤ (Lib.decDigits u).length ∧ (Lib.decDigits u).length ≤ 2 := by
  rw [Lib.decDigits]
  by_cases h1 : u < 10
  · rw [dif_pos h1]; simp
  · rw [dif_neg h1, dec1 (u / 10) (by omega)]; simp
theorem dig_ne (u : Nat) : ∀ c ∈ Lib.decDigits u, c.toNat ≠ 46 := fun c hc => by
  have := dec_dig u c hc
  unfold dig at this
  omega
/-- the parts of the inner text -/
theorem lev_split (n : Int) : splitL 46 (Lib.decDigits (n.natAbs / 100) ++ 46 :: [UInt8.ofNat (48 + n.natAbs % 100 / 10), UInt8.ofNat (48 + n.natAbs % 10)]) = [Lib.decDigits (n.natAbs / 100), [UInt8.ofNat (48 + n.natAbs % 100 / 10), UInt8.ofNat (48 + n.natAbs % 10)]] := by
  refine (split_two 46 _ _ _).2 ⟨rfl, fun c hc => dig_ne _ c hc, fun c hc => ?_⟩
  have h1 := ofNat_dig (n.natAbs % 100 / 10) (by omega)
  have h2 := ofNat_dig (n.natAbs % 10) (by omega)
  simp only [List.mem_cons, List.not_mem_nil, or_false] at hc
  show c.toNat ≠ 46
  rcases hc with rfl | rfl
  · omega
  · omega

def isLv (n : Int) : Prop := -2000 ≤ n ∧ n ≤ 2000
theorem levelB_list (n : Int) : (levelB n).data.toList = levL n := by
  unfold levelB levL signB
  simp only [ByteArray.data_append, Array.toList_append, dS]
  rw [dec1 (n.natAbs % 100 / 10) (by omega), dec1 (n.natAbs % 10) (by omega)]
  split <;> simp
theorem mkB_list (s : ByteArray) (l : List UInt8) (h : s.data.toList = l) : s = mkB l := by
  apply bytes_ext
  rw [h]
  simp [mkB]
theorem at_list (s : ByteArray) (l : List UInt8) (h : s.data.toList = l) (i : Nat) (hi : i < s.size) : s[i] = l.getD i 0 := by
  subst h
  rw [List.getD_eq_getElem?_getD, List.getElem?_eq_getElem (by simpa using hi)]
  rfl
theorem size_list (s : ByteArray) (l : List UInt8) (h : s.data.toList = l) : s.size = l.length := by
  subst h
  rfl
/-- what the text of a level is made of -/
theorem lev_all {n : Int} {s : ByteArray} (hn : isLv n) (h : s = levelB n) : 6 ≤ s.size ∧ (∀ i (hi : i < s.size), i + 1 = s.size → s[i].toNat = 109) ∧ (∀ (hi : 0 < s.size), s[0].toNat = if n < 0 then 45 else 43) ∧
    parts (s.extract 1 (s.size - 1)) 46 = [mkB (Lib.decDigits (n.natAbs / 100)), mkB [UInt8.ofNat (48 + n.natAbs % 100 / 10), UInt8.ofNat (48 + n.natAbs % 10)]] := by
  obtain ⟨h1, h2⟩ := hn
  have hL : s.data.toList = levL n := by rw [h]; exact levelB_list n
  have hz := size_list s _ hL
  have hd := dec_len2 (n.natAbs / 100) (by omega)
  have hlen : (levL n).length = (Lib.decDigits (n.natAbs / 100)).length + 5 := by unfold levL; simp
  refine ⟨by omega, fun i hi e => ?_, fun hi => ?_, ?_⟩
  · rw [at_list s _ hL i hi]
    have e2 : i = (Lib.decDigits (n.natAbs / 100)).length + 4 := by omega
    subst e2
    unfold levL
    rw [List.getD_cons_succ, List.getD_eq_getElem?_getD, List.getElem?_append_right (by omega)]
    simp
  · rw [at_list s _ hL 0 hi]
    unfold levL
    rw [List.getD_cons_zero]
    split <;> rfl
  · rw [parts_split]
    have e : (s.extract 1 (s.size - 1)).data.toList = Lib.decDigits (n.natAbs / 100) ++ 46 :: [UInt8.ofNat (48 + n.natAbs % 100 / 10), UInt8.ofNat (48 + n.natAbs % 10)] := by
      rw [ByteArray.data_extract, Array.toList_extract, List.extract_eq_take_drop, hL, hz, hlen]
      unfold levL
      rw [List.drop_succ_cons, List.drop_zero]
      rw [show (Lib.decDigits (n.natAbs / 100)).length + 5 - 1 - 1 = (Lib.decDigits (n.natAbs / 100)).length + 3 by omega, List.take_append]
      rw [List.take_of_length_le (by omega), show (Lib.decDigits (n.natAbs / 100)).length + 3 - (Lib.decDigits (n.natAbs / 100)).length = 3 by omega]
      rfl
    rw [e, lev_split n]
    rfl

theorem strT {a b : ByteArray} (h : a = b) : (a.toList == b.toList) = true := by subst h; simp
theorem strF {a b : ByteArray} (h : ¬ a = b) : (a.toList == b.toList) = false := by
  have h2 : ¬ a.toList = b.toList := fun e => h (by rw [ByteArray.toList_eq, ByteArray.toList_eq] at e; exact bytes_ext e)
  simpa using h2
/-- the level that the signs tell -/
def lvOf (neg : Bool) (m a b : Int) : Int := if neg then -(100 * m + 10 * a + b) else 100 * m + 10 * a + b
/-- all that the model asks -/
structure LvPt (s : ByteArray) (p0 p1 : ByteArray) (m : Int) : Prop where
  sz : 6 ≤ s.size
  la : ∀ i (hi : i < s.size), i + 1 = s.size → s[i].toNat = 109
  fi : ∀ (hi : 0 < s.size), s[0].toNat = 43 ∨ s[0].toNat = 45
  pa : parts (s.extract 1 (s.size - 1)) 46 = [p0, p1]
  s1 : p1.size = 2
  d0 : ∀ (hi : 0 < p1.size), dig p1[0]
  d1 : ∀ (hi : 1 < p1.size), dig p1[1]
  nu : DecOf p0.data.toList m
  bd : 0 ≤ m ∧ m ≤ 20
theorem lv_ok {n : Int} {s : ByteArray} (hn : isLv n) (h : s = levelB n) : LvPt s (mkB (Lib.decDigits (n.natAbs / 100))) (mkB [UInt8.ofNat (48 + n.natAbs % 100 / 10), UInt8.ofNat (48 + n.natAbs % 10)]) ((n.natAbs / 100 : Nat) : Int) := by
  obtain ⟨h1, h2, h3, h4⟩ := lev_all hn h
  obtain ⟨q1, q2⟩ := hn
  have t1 := ofNat_dig (n.natAbs % 100 / 10) (by omega)
  have t2 := ofNat_dig (n.natAbs % 10) (by omega)
  refine ⟨h1, h2, fun hi => by rw [h3 hi]; split <;> simp, h4, rfl, fun hi => ?_, fun hi => ?_, ?_, by omega⟩
  · show dig (UInt8.ofNat (48 + n.natAbs % 100 / 10))
    unfold dig; omega
  · show dig (UInt8.ofNat (48 + n.natAbs % 10))
    unfold dig; omega
  · have e : Lib.itoa ((n.natAbs / 100 : Nat) : Int) = Lib.decDigits (n.natAbs / 100) := by
      unfold Lib.itoa
      rw [if_neg (by omega)]
      rfl
    refine ⟨by rw [e]; rfl, ?_⟩
    show (strip (Lib.decDigits (n.natAbs / 100))).length ≤ 18
    rw [strip_dec]
    have := dec_len2 (n.natAbs / 100) (by omega)
    omega
/-- what is reckoned out of a level's text is the level -/
theorem lv_val {n m : Int} {s p0 p1 : ByteArray} (hn : isLv n) (h : s = levelB n) (k : LvPt s p0 p1 m) (h0 : 0 < s.size) (h1 : 0 < p1.size) (h2 : 1 < p1.size) :
    (s[0].toNat = 43 → 100 * m + 10 * ((p1[0].toNat : Int) - 48) + ((p1[1].toNat : Int) - 48) = n) ∧ (s[0].toNat = 45 → -(100 * m + 10 * ((p1[0].toNat : Int) - 48) + ((p1[1].toNat : Int) - 48)) = n) := by
  obtain ⟨_, _, a3, a4⟩ := lev_all hn h
  have k2 := lv_ok hn h
  have e := k.pa.symm.trans a4
  injection e with e1 e2
  injection e2 with e2 _
  have em : m = ((n.natAbs / 100 : Nat) : Int) := by
    have q := k2.nu
    rw [← e1] at q
    exact k.nu.inj q
  obtain ⟨q1, q2⟩ := hn
  have t1 := ofNat_dig (n.natAbs % 100 / 10) (by omega)
  have t2 := ofNat_dig (n.natAbs % 10) (by omega)
  subst e2
  have d0 : (mkB [UInt8.ofNat (48 + n.natAbs % 100 / 10), UInt8.ofNat (48 + n.natAbs % 10)])[0].toNat = 48 + n.natAbs % 100 / 10 := t1
  have d1 : (mkB [UInt8.ofNat (48 + n.natAbs % 100 / 10), UInt8.ofNat (48 + n.natAbs % 10)])[1].toNat = 48 + n.natAbs % 10 := t2
  rw [d0, d1]
  have hf := a3 h0
  constructor
  · intro hs
    rw [hs] at hf
    have : ¬ n < 0 := fun hneg => by rw [if_pos hneg] at hf; cases hf
    omega
  · intro hs
    rw [hs] at hf
    have : n < 0 := by
      by_cases hneg : n < 0
      · exact hneg
      · rw [if_neg hneg] at hf; cases hf
    omega

end Go.Proofs.YthfemghfkfmkdaaGreatDoor
