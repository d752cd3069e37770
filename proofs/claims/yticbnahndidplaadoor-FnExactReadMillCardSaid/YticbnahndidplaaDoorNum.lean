/- Plain numbers: the value of digits, decimals that are read back; no function of the program in it. -/
import Derived.Lib.ItoaNum
import Derived.Lib.ParseIntB
import Derived.Lib.Strings
namespace Go.Proofs.YticbnahndidplaaDoor

def dig (c : UInt8) : Prop := 48 ≤ c.toNat ∧ c.toNat ≤ 57
def valA (acc : Nat) : List UInt8 → Nat
  | [] => acc
  | c :: r => valA (10 * acc + (c.toNat - 48)) r
theorem valA_snoc (c : UInt8) : ∀ (l : List UInt8) (acc : Nat), valA acc (l ++ [c]) = 10 * valA acc l + (c.toNat - 48)
  | [], acc => rfl
  | d :: r, acc => by
    show valA _ (r ++ [c]) = _
    rw [valA_snoc c r]
    rfl
theorem ofNat_dig (d : Nat) (h : d < 10) : (UInt8.ofNat (48 + d)).toNat = 48 + d := by
  rw [UInt8.toNat_ofNat']
  omega
theorem dec_dig (u : Nat) : ∀ c ∈ Lib.decDigits u, dig c := by
  induction u using Nat.strongRecOn with
  | _ u ih =>
    intro c hc
    rw [Lib.decDigits] at hc
    by_cases h : u < 10
    · rw [dif_pos h] at hc
      have hc' : c = UInt8.ofNat (48 + u) := by simpa using hc
      subst hc'
      unfold dig
      rw [ofNat_dig u h]
      omega
    · rw [dif_neg h] at hc
      rcases List.mem_append.1 hc with h1 | h1
      · exact ih (u / 10) (by omega) c h1
      · have hc' : c = UInt8.ofNat (48 + u % 10) := by simpa using h1
        subst hc'
        unfold dig
        rw [ofNat_dig _ (Nat.mod_lt _ (by omega))]
        omega
theorem val_dec (u : Nat) : valA 0 (Lib.decDigits u) = u := by
  induction u using Nat.strongRecOn with
  | _ u ih =>
    rw [Lib.decDigits]
    by_cases h : u < 10
    · rw [dif_pos h]
      show 10 * 0 + ((UInt8.ofNat (48 + u)).toNat - 48) = u
      rw [ofNat_dig u h]
      omega
    · rw [dif_neg h, valA_snoc, ih (u / 10) (by omega), ofNat_dig _ (Nat.mod_lt _ (by omega))]
      omega
theorem dec_ne (u : Nat) : Lib.decDigits u ≠ [] := by
  rw [Lib.decDigits]
  split <;> simp
theorem valA_bd : ∀ (l : List UInt8) (acc : Nat), (∀ c ∈ l, dig c) → valA acc l < (acc + 1) * 10 ^ l.length
  | [], acc, _ => by
    show acc < (acc + 1) * 10 ^ 0
    rw [Nat.pow_zero]
    omega
  | c :: r, acc, h => by
    have hc := h c (List.mem_cons_self ..)
    unfold dig at hc
    have ih := valA_bd r (10 * acc + (c.toNat - 48)) (fun d hd => h d (List.mem_cons_of_mem _ hd))
    show valA (10 * acc + (c.toNat - 48)) r < _
    refine Nat.lt_of_lt_of_le ih ?_
    rw [List.length_cons, Nat.pow_succ, Nat.mul_comm (10 ^ r.length) 10, ← Nat.mul_assoc]
    exact Nat.mul_le_mul_right _ (by omega)
theorem parse_ok : ∀ (l : List UInt8) (M acc : Nat), (∀ c ∈ l, dig c) → (acc + 1) * 10 ^ l.length ≤ 1000000000000000000 → 1000000000000000000 ≤ M → Lib.parseUintM M acc l = .ok (valA acc l)
  | [], M, acc, _, _, _ => rfl
  | c :: r, M, acc, h, hb, hM => by
    have hc := h c (List.mem_cons_self ..)
    unfold dig at hc
    rw [List.length_cons, Nat.pow_succ, Nat.mul_comm (10 ^ r.length) 10, ← Nat.mul_assoc] at hb
    have hp : 1 ≤ 10 ^ r.length := Nat.pos_of_ne_zero (by simp)
    have h1 : (acc + 1) * 10 ≤ 1000000000000000000 := Nat.le_trans (Nat.le_mul_of_pos_right _ hp) hb
    rw [Lib.parseUintM, if_pos hc, if_neg (by omega), if_neg (by omega)]
    have e : acc * 10 + (c.toNat - 48) = 10 * acc + (c.toNat - 48) := by omega
    rw [e]
    refine parse_ok r M _ (fun d hd => h d (List.mem_cons_of_mem _ hd)) (Nat.le_trans (Nat.mul_le_mul_right _ (by omega)) hb) hM

/-- The digits of a text, without a minus sign in front. -/
def strip (l : List UInt8) : List UInt8 := Lib.trimPrefix l [45]
theorem strip_minus (r : List UInt8) : strip (45 :: r) = r := rfl
theorem strip_other (c : UInt8) (r : List UInt8) (h : c ≠ 45) : strip (c :: r) = c :: r := by
  unfold strip Lib.trimPrefix
  rw [if_neg]
  simp [Lib.hasPrefix, List.isPrefixOf]
  exact fun e => h e.symm
theorem strip_nil : strip [] = [] := rfl
theorem strip_dec (u : Nat) : strip (Lib.decDigits u) = Lib.decDigits u := by
  cases h : Lib.decDigits u with
  | nil => exact absurd h (dec_ne u)
  | cons c r =>
    refine strip_other c r ?_
    rintro rfl
    have := dec_dig u 45 (by rw [h]; exact List.mem_cons_self ..)
    unfold dig at this
    exact absurd this (by decide)
theorem strip_itoa (n : Int) : strip (Lib.itoa n) = Lib.decDigits n.natAbs := by
  unfold Lib.itoa
  by_cases h : n < 0
  · rw [if_pos h, strip_minus]
  · rw [if_neg h, strip_dec]
    congr 1
    omega
/-- l is the decimal form of n, of at most 18 digits. -/
def DecOf (l : List UInt8) (n : Int) : Prop := l = Lib.itoa n ∧ (strip l).length ≤ 18
theorem dec_small (u : Nat) (h : (Lib.decDigits u).length ≤ 18) : u < 1000000000000000000 := by
  have h1 := valA_bd (Lib.decDigits u) 0 (dec_dig u)
  rw [val_dec] at h1
  have h2 : 10 ^ (Lib.decDigits u).length ≤ 10 ^ 18 := Nat.pow_le_pow_right (by omega) h
  omega
theorem DecOf.small {l : List UInt8} {n : Int} (h : DecOf l n) : n.natAbs < 1000000000000000000 := by
  obtain ⟨rfl, h2⟩ := h
  rw [strip_itoa] at h2
  exact dec_small _ h2
theorem DecOf.parse {l : List UInt8} {n : Int} (h : DecOf l n) : Lib.parseIntB 64 l = .ok n := by
  have hs := h.small
  obtain ⟨rfl, h2⟩ := h
  rw [strip_itoa] at h2
  have hp : Lib.parseUintB 64 (Lib.decDigits n.natAbs) = .ok n.natAbs := by
    unfold Lib.parseUintB
    rw [if_neg (dec_ne _), parse_ok _ _ _ (dec_dig _) ?_ (by decide), val_dec]
    have : 10 ^ (Lib.decDigits n.natAbs).length ≤ 10 ^ 18 := Nat.pow_le_pow_right (by omega) h2
    omega
  unfold Lib.itoa
  by_cases hn : n < 0
  · rw [if_pos hn]
    unfold Lib.parseIntB
    simp only [show (45 : UInt8).toNat = 45 from rfl, or_true, if_true, hp]
    rw [if_neg (by simp), if_neg (by simp; omega)]
    simp
    omega
  · rw [if_neg hn]
    have e : n.toNat = n.natAbs := by omega
    rw [e]
    cases hd : Lib.decDigits n.natAbs with
    | nil => exact absurd hd (dec_ne _)
    | cons c r =>
      have hc := dec_dig n.natAbs c (by rw [hd]; exact List.mem_cons_self ..)
      unfold dig at hc
      rw [hd] at hp
      unfold Lib.parseIntB
      simp only
      rw [if_neg (by omega : ¬ (c.toNat = 43 ∨ c.toNat = 45)), hp]
      simp only
      rw [if_neg (by omega), if_neg (by omega)]
      have h45 : ¬ c.toNat = 45 := by omega
      simp [h45]
      omega
theorem DecOf.inj {l : List UInt8} {n m : Int} (h : DecOf l n) (k : DecOf l m) : n = m := by
  have := h.parse.symm.trans k.parse
  injection this

end Go.Proofs.YticbnahndidplaaDoor
