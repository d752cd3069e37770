/- The text of a mill, plain: its parts, and that it has one reading. No function of the program in it. -/
import Derived.Test.YticbnahndidplaaDoorPairP
import Derived.Test.YticbnahndidplaaDoorWords
import Derived.Test.YticbnahndidplaaDoorMilP
import Derived.Lib.ItoaLen
import Derived.Lib.IndexMore
namespace Go.Proofs.YticbnahndidplaaDoor
open Go.RowKit

/-- cutting at a mark whose first sign does not stand ahead of it -/
theorem index_seq (b : UInt8) (m : List UInt8) : ∀ (x y : List UInt8), (∀ c ∈ x, c ≠ b) → Lib.index (x ++ (b :: m) ++ y) (b :: m) = (x.length : Int) := by
  intro x
  induction x with
  | nil => intro y _; show Lib.index (b :: (m ++ y)) (b :: m) = 0; unfold Lib.index; rw [if_pos (by simp [List.isPrefixOf_iff_prefix])]
  | cons c t ih =>
    intro y h
    show Lib.index (c :: (t ++ (b :: m) ++ y)) (b :: m) = _
    unfold Lib.index
    have hc : (b == c) = false := by simpa using fun e : b = c => h c List.mem_cons_self e.symm
    rw [if_neg (by simp [List.isPrefixOf, hc]), ih y (fun d hd => h d (List.mem_cons_of_mem _ hd))]
    rw [if_neg (by first | (simp; done) | (simp; omega))]
    simp
theorem cut_seq (b : UInt8) (m x y : List UInt8) (h : ∀ c ∈ x, c ≠ b) : Lib.cut (x ++ (b :: m) ++ y) (b :: m) = (x, y, true) := by
  unfold Lib.cut
  rw [index_seq b m x y h, if_pos (by omega)]
  simp
theorem cut_len (l m : List UInt8) : (Lib.cut l m).1.length ≤ l.length ∧ (Lib.cut l m).2.1.length ≤ l.length := by
  unfold Lib.cut
  split
  · constructor
    · rw [List.length_take]; omega
    · rw [List.length_drop]; omega
  · exact ⟨Nat.le_refl _, Nat.zero_le _⟩
theorem cut_nil (b : UInt8) (m : List UInt8) : Lib.cut [] (b :: m) = ([], [], false) := by
  unfold Lib.cut
  rfl

/-- numbers that are read -/
def In18 (n : Int) : Prop := -1000000000 ≤ n ∧ n ≤ 1000000000
theorem dec_in {n : Int} (h : In18 n) : DecOf (Lib.itoa n) n := by
  refine ⟨rfl, ?_⟩
  rw [strip_itoa]
  obtain ⟨h1, h2⟩ := h
  have : ∀ k u, u < 10 ^ (k + 1) → (Lib.decDigits u).length ≤ k + 1 := by
    intro k
    induction k with
    | zero => intro u hu; rw [Lib.decDigits, dif_pos (by omega)]; simp
    | succ k ih =>
      intro u hu
      rw [Lib.decDigits]
      split
      · simp
      · rw [List.length_append]
        have := ih (u / 10) (by rw [Nat.pow_succ] at hu; omega)
        simp
        omega
  have := this 9 n.natAbs (by omega)
  omega
theorem dec_nil (n : Int) : ¬ DecOf [] n := fun h => by
  have e := h.1
  have h2 := congrArg strip e
  rw [strip_itoa, strip_nil] at h2
  exact dec_ne _ h2.symm

theorem ml_18 {a b c d : Int} (h : mlOk a b c d) : In18 a ∧ In18 b ∧ In18 c ∧ In18 d := by
  obtain ⟨h1, h2, h3, h4⟩ := h
  exact ⟨⟨by omega, by omega⟩, ⟨by omega, by omega⟩, ⟨by omega, by omega⟩, ⟨by omega, by omega⟩⟩
theorem itoa_pos45 {n : Int} (h : 0 ≤ n) : ∀ x ∈ Lib.itoa n, x.toNat ≠ 45 := by
  intro x hx
  unfold Lib.itoa at hx
  rw [if_neg (by omega)] at hx
  have := dec_dig _ x hx
  unfold dig at this
  omega
def mlL (a b c d : Int) : List UInt8 := [108, 105, 102, 116] ++ [32] ++ Lib.itoa a ++ [32] ++ [114, 97, 116, 101] ++ [32] ++ Lib.itoa b ++ [32] ++ [119, 105, 110, 100] ++ [32] ++ (Lib.itoa c ++ 45 :: Lib.itoa d)
theorem ml_join (u v x : List UInt8) : [108, 105, 102, 116] ++ [32] ++ u ++ [32] ++ [114, 97, 116, 101] ++ [32] ++ v ++ [32] ++ [119, 105, 110, 100] ++ [32] ++ x = joinL 32 [[108, 105, 102, 116], u, [114, 97, 116, 101], v, [119, 105, 110, 100], x] := by
  simp [joinL]
theorem ml_split (a b c d : Int) : splitL 32 (mlL a b c d) = [[108, 105, 102, 116], Lib.itoa a, [114, 97, 116, 101], Lib.itoa b, [119, 105, 110, 100], Lib.itoa c ++ 45 :: Lib.itoa d] := by
  unfold mlL
  rw [ml_join]
  refine split_join 32 _ (by simp) ?_
  intro w hw e hd
  have h5 : w = [108, 105, 102, 116] ∨ w = Lib.itoa a ∨ w = [114, 97, 116, 101] ∨ w = Lib.itoa b ∨ w = [119, 105, 110, 100] ∨ w = Lib.itoa c ++ 45 :: Lib.itoa d := by simpa using hw
  show e.toNat ≠ 32
  rcases h5 with rfl | rfl | rfl | rfl | rfl | rfl
  · have h4 : e = 108 ∨ e = 105 ∨ e = 102 ∨ e = 116 := by simpa using hd
    rcases h4 with rfl | rfl | rfl | rfl <;> decide
  · exact itoa_no32 _ e hd
  · have h4 : e = 114 ∨ e = 97 ∨ e = 116 ∨ e = 101 := by simpa using hd
    rcases h4 with rfl | rfl | rfl | rfl <;> decide
  · exact itoa_no32 _ e hd
  · have h4 : e = 119 ∨ e = 105 ∨ e = 110 ∨ e = 100 := by simpa using hd
    rcases h4 with rfl | rfl | rfl | rfl <;> decide
  · rcases List.mem_append.1 hd with h | h
    · exact itoa_no32 _ e h
    · rcases List.mem_cons.1 h with rfl | h
      · decide
      · exact itoa_no32 _ e h
structure MlK (s p0 p1 p2 p3 p4 p5 q0 q1 : ByteArray) (a b c d : Int) : Prop where
  pa : parts s 32 = [p0, p1, p2, p3, p4, p5]
  qa : parts p5 45 = [q0, q1]
  p0 : p0.data.toList = [108, 105, 102, 116]
  p2 : p2.data.toList = [114, 97, 116, 101]
  p4 : p4.data.toList = [119, 105, 110, 100]
  na : DecOf p1.data.toList a
  nb : DecOf p3.data.toList b
  nc : DecOf q0.data.toList c
  nd : DecOf q1.data.toList d
theorem mlk_ok {a b c d : Int} {s : ByteArray} (h : mlOk a b c d) (e : s.data.toList = mlL a b c d) : MlK s (mkB [108, 105, 102, 116]) (mkB (Lib.itoa a)) (mkB [114, 97, 116, 101]) (mkB (Lib.itoa b)) (mkB [119, 105, 110, 100]) (mkB (Lib.itoa c ++ 45 :: Lib.itoa d)) (mkB (Lib.itoa c)) (mkB (Lib.itoa d)) a b c d := by
  obtain ⟨t1, t2, t3, t4⟩ := ml_18 h
  obtain ⟨_, _, h3, _⟩ := h
  refine ⟨?_, ?_, by simp [mkB], by simp [mkB], by simp [mkB], by simpa [mkB] using dec_in t1, by simpa [mkB] using dec_in t2, by simpa [mkB] using dec_in t3, by simpa [mkB] using dec_in t4⟩
  · rw [parts_split, e, ml_split]
    rfl
  · rw [parts_split]
    have e2 : splitL 45 (Lib.itoa c ++ 45 :: Lib.itoa d) = [Lib.itoa c, Lib.itoa d] :=
      (split_two 45 _ _ _).2 ⟨rfl, itoa_pos45 (by omega), itoa_pos45 (by omega)⟩
    show List.map mkB (splitL 45 (mkB (Lib.itoa c ++ 45 :: Lib.itoa d)).data.toList) = _
    rw [show (mkB (Lib.itoa c ++ 45 :: Lib.itoa d)).data.toList = Lib.itoa c ++ 45 :: Lib.itoa d by simp [mkB], e2]
    rfl
theorem parts_list {s : ByteArray} {b : Nat} {P : List ByteArray} (h : parts s b = P) : splitL b s.data.toList = P.map (fun p : ByteArray => p.data.toList) := by
  rw [parts_split] at h
  have h2 := congrArg (List.map (fun p : ByteArray => p.data.toList)) h
  rw [List.map_map] at h2
  have e : (fun p : ByteArray => p.data.toList) ∘ mkB = id := by funext x; simp [mkB]
  rw [e, List.map_id] at h2
  exact h2
theorem mlk_val {s p0 p1 p2 p3 p4 p5 q0 q1 : ByteArray} {a b c d : Int} (k : MlK s p0 p1 p2 p3 p4 p5 q0 q1 a b c d) : s.data.toList = mlL a b c d := by
  have h1 := parts_list k.pa
  have h2 := parts_list k.qa
  simp only [List.map_cons, List.map_nil] at h1 h2
  have h3 := ((split_two 45 _ _ _).1 h2).1
  rw [k.nc.1, k.nd.1] at h3
  rw [k.p0, k.p2, k.p4, k.na.1, k.nb.1, h3] at h1
  have := join_split 32 s.data.toList
  rw [show (32 : UInt8).toNat = 32 from rfl, h1, ← ml_join] at this
  exact this.symm
theorem MlK.inj {s p0 p1 p2 p3 p4 p5 q0 q1 p0' p1' p2' p3' p4' p5' q0' q1' : ByteArray} {a b c d a' b' c' d' : Int} (h : MlK s p0 p1 p2 p3 p4 p5 q0 q1 a b c d) (k : MlK s p0' p1' p2' p3' p4' p5' q0' q1' a' b' c' d') : a = a' ∧ b = b' ∧ c = c' ∧ d = d' := by
  have e := h.pa.symm.trans k.pa
  simp only [List.cons.injEq, and_true] at e
  obtain ⟨rfl, rfl, rfl, rfl, rfl, rfl⟩ := e
  have e2 := h.qa.symm.trans k.qa
  simp only [List.cons.injEq, and_true] at e2
  obtain ⟨rfl, rfl⟩ := e2
  exact ⟨h.na.inj k.na, h.nb.inj k.nb, h.nc.inj k.nc, h.nd.inj k.nd⟩
theorem ml_res (s : ByteArray) : ∃ res : Option (Int × Int × Int × Int), ∀ a b c d, res = some (a, b, c, d) ↔ mlOk a b c d ∧ s.data.toList = mlL a b c d := by
  by_cases h : ∃ a b c d, mlOk a b c d ∧ s.data.toList = mlL a b c d
  · obtain ⟨a, b, c, d, hn, he⟩ := h
    refine ⟨some (a, b, c, d), fun a' b' c' d' => ⟨fun e => ?_, fun hm => ?_⟩⟩
    · injection e with e; injection e with e1 e2; injection e2 with e2 e3; injection e3 with e3 e4; subst e1 e2 e3 e4; exact ⟨hn, he⟩
    · obtain ⟨rfl, rfl, rfl, rfl⟩ := (mlk_ok hn he).inj (mlk_ok hm.1 hm.2)
      rfl
  · exact ⟨none, fun a b c d => ⟨fun e => by simp at e, fun hm => absurd ⟨a, b, c, d, hm⟩ h⟩⟩
theorem four_back {w : World} {r : Nat} {v0 v1 v2 v3 o0 o1 o2 o3 : Value} (h0 : w.cell? ⟨r, 0, none⟩ = some o0) (h1 : w.cell? ⟨r, 1, none⟩ = some o1) (h2 : w.cell? ⟨r, 2, none⟩ = some o2) (h3 : w.cell? ⟨r, 3, none⟩ = some o3) :
    ((((w.setCell ⟨r, 0, none⟩ v0).setCell ⟨r, 1, none⟩ v1).setCell ⟨r, 2, none⟩ v2).setCell ⟨r, 3, none⟩ v3).cell? ⟨r, 0, none⟩ = some v0 ∧ ((((w.setCell ⟨r, 0, none⟩ v0).setCell ⟨r, 1, none⟩ v1).setCell ⟨r, 2, none⟩ v2).setCell ⟨r, 3, none⟩ v3).cell? ⟨r, 1, none⟩ = some v1 ∧ ((((w.setCell ⟨r, 0, none⟩ v0).setCell ⟨r, 1, none⟩ v1).setCell ⟨r, 2, none⟩ v2).setCell ⟨r, 3, none⟩ v3).cell? ⟨r, 2, none⟩ = some v2 ∧ ((((w.setCell ⟨r, 0, none⟩ v0).setCell ⟨r, 1, none⟩ v1).setCell ⟨r, 2, none⟩ v2).setCell ⟨r, 3, none⟩ v3).cell? ⟨r, 3, none⟩ = some v3 := by
  have n : ∀ {i j : Nat}, i ≠ j → (⟨r, i, none⟩ : Addr) ≠ ⟨r, j, none⟩ := fun h e => h (by injection e)
  refine ⟨?_, ?_, ?_, ?_⟩
  · rw [World.cell?_setCell_other _ _ _ _ (n (by omega)), World.cell?_setCell_other _ _ _ _ (n (by omega)), World.cell?_setCell_other _ _ _ _ (n (by omega))]
    exact World.cell?_setCell_same _ _ _ h0
  · rw [World.cell?_setCell_other _ _ _ _ (n (by omega)), World.cell?_setCell_other _ _ _ _ (n (by omega))]
    exact World.cell?_setCell_same _ _ _ ((World.cell?_setCell_other _ _ _ _ (n (by omega))).trans h1)
  · rw [World.cell?_setCell_other _ _ _ _ (n (by omega))]
    exact World.cell?_setCell_same _ _ _ (((World.cell?_setCell_other _ _ _ _ (n (by omega))).trans ((World.cell?_setCell_other _ _ _ _ (n (by omega))).trans h2)))
  · exact World.cell?_setCell_same _ _ _ ((World.cell?_setCell_other _ _ _ _ (n (by omega))).trans (((World.cell?_setCell_other _ _ _ _ (n (by omega))).trans ((World.cell?_setCell_other _ _ _ _ (n (by omega))).trans h3))))
theorem strF5 {a b : ByteArray} (h : ¬ a = b) : (a.toList == b.data.toList) = false := by
  rw [ByteArray.toList_eq, beq_eq_false_iff_ne]
  intro e
  exact h (bytes_ext e)
theorem strT5 {a b : ByteArray} (h : a = b) : (a.toList == b.data.toList) = true := by
  subst h; rw [ByteArray.toList_eq]; simp
theorem psz {s : ByteArray} {b : Nat} {P : List ByteArray} (h : P = parts s b) : ∀ p ∈ P, p.size ≤ s.size := by
  intro p hm
  rw [h] at hm
  obtain ⟨x, hx, rfl⟩ := List.mem_map.1 hm
  have hb := cuts_bd s b _ 0 0 (Nat.le_refl _) (by omega) x hx
  unfold ext
  rw [ByteArray.size_extract]
  omega

end Go.Proofs.YticbnahndidplaaDoor
