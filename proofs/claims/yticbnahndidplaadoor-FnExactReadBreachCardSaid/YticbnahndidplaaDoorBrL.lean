/- The text of a breach, plain: its parts, and that it has one reading; cutting at a longer mark. No function of the program in it. -/
import Derived.Test.YticbnahndidplaaDoorPairP
import Derived.Test.YticbnahndidplaaDoorBreP
import Derived.Lib.ItoaLen
import Derived.Lib.IndexMore
namespace Go.Proofs.YticbnahndidplaaDoor
open Go.RowKit

/-- cutting at a mark whose first sign does not stand ahead of it -/
theorem index_seq (b : UInt8) (m : List UInt8) : ∀ (x y : List UInt8), (∀ c ∈ x, c ≠ b) → Lib.index (x ++ (b :: m) ++ y) (b :: m) = (x.length : Int) := by
  intro x
  induction x with
  | nil => intro y _; show Lib.index (b :: (m ++ y)) (b :: m) = 0; unfold Lib.index; rw [if_pos (by simp [List.isPrefixOf_iff_prefix])]
  | cons c t ih =>
    intro y h
    show Lib.index (c :: (t ++ (b :: m) ++ y)) (b :: m) = _
    unfold Lib.index
    have hc : (b == c) = false := by simpa using fun e : b = c => h c List.mem_cons_self e.symm
    rw [if_neg (by simp [List.isPrefixOf, hc]), ih y (fun d hd => h d (List.mem_cons_of_mem _ hd))]
    rw [if_neg (by first | (simp; done) | (simp; omega))]
    simp
theorem cut_seq (b : UInt8) (m x y : List UInt8) (h : ∀ c ∈ x, c ≠ b) : Lib.cut (x ++ (b :: m) ++ y) (b :: m) = (x, y, true) := by
  unfold Lib.cut
  rw [index_seq b m x y h, if_pos (by omega)]
  simp
theorem cut_len (l m : List UInt8) : (Lib.cut l m).1.length ≤ l.length ∧ (Lib.cut l m).2.1.length ≤ l.length := by
  unfold Lib.cut
  split
  · constructor
    · rw [List.length_take]; omega
    · rw [List.length_drop]; omega
  · exact ⟨Nat.le_refl _, Nat.zero_le _⟩
theorem cut_nil (b : UInt8) (m : List UInt8) : Lib.cut [] (b :: m) = ([], [], false) := by
  unfold Lib.cut
  rfl

/-- numbers that are read -/
def In18 (n : Int) : Prop := -1000000000 ≤ n ∧ n ≤ 1000000000
theorem dec_in {n : Int} (h : In18 n) : DecOf (Lib.itoa n) n := by
  refine ⟨rfl, ?_⟩
  rw [strip_itoa]
  obtain ⟨h1, h2⟩ := h
  have : ∀ k u, u < 10 ^ (k + 1) → (Lib.decDigits u).length ≤ k + 1 := by
    intro k
    induction k with
    | zero => intro u hu; rw [Lib.decDigits, dif_pos (by omega)]; simp
    | succ k ih =>
      intro u hu
      rw [Lib.decDigits]
      split
      · simp
      · rw [List.length_append]
        have := ih (u / 10) (by rw [Nat.pow_succ] at hu; omega)
        simp
        omega
  have := this 9 n.natAbs (by omega)
  omega
theorem tl_18 {a b c : Int} (h : tlOk a b c) : In18 a ∧ In18 b ∧ In18 c := ⟨⟨by have := h.1; omega, by have := h.1; omega⟩, ⟨by have := h.2.1; omega, by have := h.2.1; omega⟩, ⟨by have := h.2.2; omega, by have := h.2.2; omega⟩⟩

def brL (a b c : Int) : List UInt8 := Lib.itoa a ++ [109, 32, 115, 105, 108, 108, 32] ++ Lib.itoa b ++ [32, 119, 97, 116, 101, 114, 32] ++ Lib.itoa c
theorem br_join (u v x : List UInt8) : u ++ [109, 32, 115, 105, 108, 108, 32] ++ v ++ [32, 119, 97, 116, 101, 114, 32] ++ x = joinL 32 [u ++ [109], [115, 105, 108, 108], v, [119, 97, 116, 101, 114], x] := by
  simp [joinL]
theorem br_split (a b c : Int) : splitL 32 (brL a b c) = [Lib.itoa a ++ [109], [115, 105, 108, 108], Lib.itoa b, [119, 97, 116, 101, 114], Lib.itoa c] := by
  unfold brL
  rw [br_join]
  refine split_join 32 _ (by simp) ?_
  intro w hw d hd
  have h5 : w = Lib.itoa a ++ [109] ∨ w = [115, 105, 108, 108] ∨ w = Lib.itoa b ∨ w = [119, 97, 116, 101, 114] ∨ w = Lib.itoa c := by simpa using hw
  show d.toNat ≠ 32
  rcases h5 with rfl | rfl | rfl | rfl | rfl
  · rcases List.mem_append.1 hd with h | h
    · exact itoa_no32 _ d h
    · rw [List.mem_singleton.1 h]; decide
  · have h4 : d = 115 ∨ d = 105 ∨ d = 108 ∨ d = 108 := by simpa using hd
    rcases h4 with rfl | rfl | rfl | rfl <;> decide
  · exact itoa_no32 _ d hd
  · have h4 : d = 119 ∨ d = 97 ∨ d = 116 ∨ d = 101 ∨ d = 114 := by simpa using hd
    rcases h4 with rfl | rfl | rfl | rfl | rfl <;> decide
  · exact itoa_no32 _ d hd
/-- the parts of a text that is read -/
structure BrPt (l u v x : List UInt8) (a b c : Int) : Prop where
  parts : splitL 32 l = [u ++ [109], [115, 105, 108, 108], v, [119, 97, 116, 101, 114], x]
  na : DecOf u a
  nb : DecOf v b
  nc : DecOf x c
theorem BrPt.back {l u v x : List UInt8} {a b c : Int} (h : BrPt l u v x a b c) : l = brL a b c := by
  have := join_split 32 l
  rw [show (32 : UInt8).toNat = 32 from rfl, h.parts, ← br_join, h.na.1, h.nb.1, h.nc.1] at this
  exact this.symm
theorem br_pt {a b c : Int} (h : tlOk a b c) : BrPt (brL a b c) (Lib.itoa a) (Lib.itoa b) (Lib.itoa c) a b c :=
  ⟨br_split a b c, dec_in (tl_18 h).1, dec_in (tl_18 h).2.1, dec_in (tl_18 h).2.2⟩
theorem BrPt.inj {l u v x u' v' x' : List UInt8} {a b c a' b' c' : Int} (h : BrPt l u v x a b c) (k : BrPt l u' v' x' a' b' c') : u = u' ∧ v = v' ∧ x = x' ∧ a = a' ∧ b = b' ∧ c = c' := by
  have e := h.parts.symm.trans k.parts
  simp only [List.cons.injEq, List.append_cancel_right_eq, and_true, true_and] at e
  obtain ⟨rfl, rfl, rfl⟩ := e
  exact ⟨rfl, rfl, rfl, h.na.inj k.na, h.nb.inj k.nb, h.nc.inj k.nc⟩
theorem br_res (l : List UInt8) : ∃ res : Option (Int × Int × Int), ∀ a b c, res = some (a, b, c) ↔ tlOk a b c ∧ l = brL a b c := by
  by_cases h : ∃ a b c, tlOk a b c ∧ l = brL a b c
  · obtain ⟨a, b, c, hn, rfl⟩ := h
    refine ⟨some (a, b, c), fun a' b' c' => ⟨fun e => ?_, fun hm => ?_⟩⟩
    · injection e with e; injection e with e1 e2; injection e2 with e2 e3; subst e1 e2 e3; exact ⟨hn, rfl⟩
    · obtain ⟨_, _, _, rfl, rfl, rfl⟩ := (br_pt hn).inj (by rw [hm.2]; exact br_pt hm.1)
      rfl
  · exact ⟨none, fun a b c => ⟨fun e => by simp at e, fun hm => absurd ⟨a, b, c, hm⟩ h⟩⟩
/-- how the program cuts a text -/
theorem br_cut (a b c : Int) : Lib.cut (brL a b c) [109, 32, 115, 105, 108, 108, 32] = (Lib.itoa a, Lib.itoa b ++ [32, 119, 97, 116, 101, 114, 32] ++ Lib.itoa c, true) := by
  have e : brL a b c = Lib.itoa a ++ (109 :: [32, 115, 105, 108, 108, 32]) ++ (Lib.itoa b ++ [32, 119, 97, 116, 101, 114, 32] ++ Lib.itoa c) := by
    unfold brL; simp
  rw [e]
  exact cut_seq 109 _ _ _ (fun d hd e2 => by
    subst e2
    rcases itoa_sign _ _ hd with h | h
    · exact absurd h (by decide)
    · unfold dig at h; exact absurd h (by decide))
theorem br_cut2 (b c : Int) : Lib.cut (Lib.itoa b ++ [32, 119, 97, 116, 101, 114, 32] ++ Lib.itoa c) [32, 119, 97, 116, 101, 114, 32] = (Lib.itoa b, Lib.itoa c, true) :=
  cut_seq 32 _ _ _ (fun d hd e2 => itoa_no32 _ d hd (by rw [e2]; decide))
theorem dec_nil (n : Int) : ¬ DecOf [] n := fun h => by
  have e := h.1
  have h2 := congrArg strip e
  rw [strip_itoa, strip_nil] at h2
  exact dec_ne _ h2.symm
theorem brL_ne (a b c : Int) : brL a b c ≠ [] := by
  unfold brL; simp

end Go.Proofs.YticbnahndidplaaDoor
