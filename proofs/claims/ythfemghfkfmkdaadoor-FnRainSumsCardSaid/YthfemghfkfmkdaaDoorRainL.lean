/- Rain out of texts: plain mathematics. -/
import Derived.Test.YthfemghfkfmkdaaDoorRainT
import Derived.Test.YthfemghfkfmkdaaDoorReadL
import Derived.Test.YthfemghfkfmkdaaDoorReadP
namespace Go.Proofs.YthfemghfkfmkdaaDoor
open Go.RowKit

def rainL (n : Int) : List UInt8 := Lib.decDigits (n.toNat / 10) ++ 46 :: [UInt8.ofNat (48 + n.toNat % 10), 109, 109]
theorem rainB_list (n : Int) : (rainB n).data.toList = rainL n := by
  unfold rainB rainL
  simp only [ByteArray.data_append, Array.toList_append, dS]
  rw [dec1 (n.toNat % 10) (by omega)]
  simp
/-- all that the model asks of a text -/
structure RnOk (s p0 p1 : ByteArray) (m : Int) (c : UInt8) : Prop where
  pa : parts s 46 = [p0, p1]
  p1 : p1.data.toList = [c, 109, 109]
  dg : dig c
  nu : DecOf p0.data.toList m
  bd : 0 ≤ m ∧ m ≤ 300
  rn : isRn (10 * m + ((c.toNat : Int) - 48))
theorem rn_ok {n : Int} {s : ByteArray} (hn : isRn n) (h : s = rainB n) : RnOk s (mkB (Lib.decDigits (n.toNat / 10))) (mkB [UInt8.ofNat (48 + n.toNat % 10), 109, 109]) ((n.toNat / 10 : Nat) : Int) (UInt8.ofNat (48 + n.toNat % 10)) := by
  obtain ⟨h1, h2⟩ := hn
  have t1 := ofNat_dig (n.toNat % 10) (by omega)
  refine ⟨?_, rfl, by unfold dig; omega, ?_, by omega, by unfold isRn; rw [t1]; omega⟩
  · rw [parts_split]
    have e : s.data.toList = rainL n := by rw [h]; exact rainB_list n
    rw [e]
    unfold rainL
    have e2 : splitL 46 (Lib.decDigits (n.toNat / 10) ++ 46 :: [UInt8.ofNat (48 + n.toNat % 10), 109, 109]) = [Lib.decDigits (n.toNat / 10), [UInt8.ofNat (48 + n.toNat % 10), 109, 109]] := by
      refine (split_two 46 _ _ _).2 ⟨rfl, fun c hc => dig_ne _ c hc, fun c hc => ?_⟩
      show c.toNat ≠ 46
      simp only [List.mem_cons, List.not_mem_nil, or_false] at hc
      rcases hc with rfl | rfl | rfl
      · omega
      · decide
      · decide
    rw [e2]
    rfl
  · have e : Lib.itoa ((n.toNat / 10 : Nat) : Int) = Lib.decDigits (n.toNat / 10) := by
      unfold Lib.itoa
      rw [if_neg (by omega)]
      rfl
    refine ⟨by rw [e]; rfl, ?_⟩
    show (strip (Lib.decDigits (n.toNat / 10))).length ≤ 18
    rw [strip_dec]
    have hl := dec_len 9 (n.toNat / 10) (by omega)
    omega
theorem rn_val {s p0 p1 : ByteArray} {m : Int} {c : UInt8} (k : RnOk s p0 p1 m c) : s = rainB (10 * m + ((c.toNat : Int) - 48)) := by
  apply bytes_ext
  rw [rainB_list]
  have hp := k.pa
  rw [parts_split] at hp
  obtain ⟨x, y, hxy⟩ : ∃ x y, splitL 46 s.data.toList = [x, y] := by
    match hs : splitL 46 s.data.toList with
    | [] => rw [hs] at hp; simp at hp
    | [x] => rw [hs] at hp; simp at hp
    | [x, y] => exact ⟨x, y, rfl⟩
    | x :: y :: z :: r => rw [hs] at hp; simp at hp
  rw [hxy] at hp
  simp only [List.map_cons, List.map_nil, List.cons.injEq, and_true] at hp
  obtain ⟨e0, e1⟩ := hp
  have hs := ((split_two 46 _ _ _).1 hxy).1
  have ex : x = Lib.decDigits m.toNat := by
    have q := k.nu.1
    rw [← e0] at q
    have q2 : x = Lib.itoa m := by simpa [mkB] using q
    rw [q2]
    have := k.bd
    unfold Lib.itoa
    rw [if_neg (by omega)]
  have ey : y = [c, 109, 109] := by
    have q := k.p1
    rw [← e1] at q
    simpa [mkB] using q
  obtain ⟨d1, d2⟩ := k.dg
  have b := k.bd
  unfold rainL
  rw [hs, ex, ey]
  have n1 : (10 * m + ((c.toNat : Int) - 48)).toNat / 10 = m.toNat := by omega
  have n2 : (10 * m + ((c.toNat : Int) - 48)).toNat % 10 = c.toNat - 48 := by omega
  rw [n1, n2]
  have ec : UInt8.ofNat (48 + (c.toNat - 48)) = c := by
    apply UInt8.toNat_inj.1
    rw [ofNat_dig _ (by omega)]
    omega
  rw [ec]
theorem RnOk.inj {s p0 p1 q0 q1 : ByteArray} {m m' : Int} {c c' : UInt8} (h : RnOk s p0 p1 m c) (k : RnOk s q0 q1 m' c') : p0 = q0 ∧ p1 = q1 ∧ m = m' ∧ c = c' := by
  have e := h.pa.symm.trans k.pa
  injection e with e1 e2
  injection e2 with e2 _
  subst e1 e2
  have e3 := h.p1.symm.trans k.p1
  injection e3 with e3 _
  exact ⟨rfl, rfl, h.nu.inj k.nu, e3⟩
theorem rn_res (s : ByteArray) : ∃ res : Option Int, ∀ n, res = some n ↔ isRn n ∧ s = rainB n := by
  by_cases h : ∃ n, isRn n ∧ s = rainB n
  · obtain ⟨n, hn⟩ := h
    refine ⟨some n, fun m => ⟨fun e => by injection e with e; exact e ▸ hn, fun hm => ?_⟩⟩
    obtain ⟨_, _, e3, e4⟩ := (rn_ok hn.1 hn.2).inj (rn_ok hm.1 hm.2)
    have t1 := ofNat_dig (n.toNat % 10) (by omega)
    have t2 := ofNat_dig (m.toNat % 10) (by omega)
    rw [e4] at t1
    obtain ⟨h1, h2⟩ := hn.1
    obtain ⟨h3, h4⟩ := hm.1
    congr 1
    omega
  · exact ⟨none, fun m => ⟨fun e => by simp at e, fun hm => absurd ⟨m, hm⟩ h⟩⟩
/-- where a text ends with 'mm' and is cut at its first point -/
theorem suffix_mm (l : List UInt8) : Lib.hasSuffix (l ++ [109, 109]) [109, 109] = true ∧ Lib.trimSuffix (l ++ [109, 109]) [109, 109] = l := by
  have h : Lib.hasSuffix (l ++ [109, 109]) [109, 109] = true := by
    unfold Lib.hasSuffix
    simp [List.isSuffixOf]
  refine ⟨h, ?_⟩
  unfold Lib.trimSuffix
  rw [if_pos h]
  simp
theorem rain_cut {n : Int} {s : ByteArray} (h : s = rainB n) : Lib.cut (Lib.trimSuffix s.data.toList [109, 109]) [46] = (Lib.decDigits (n.toNat / 10), [UInt8.ofNat (48 + n.toNat % 10)], true) := by
  have e : s.data.toList = (Lib.decDigits (n.toNat / 10) ++ 46 :: [UInt8.ofNat (48 + n.toNat % 10)]) ++ [109, 109] := by
    rw [h, rainB_list]; unfold rainL; simp
  rw [e, (suffix_mm _).2]
  exact cut_app 46 _ _ fun c hc e2 => by
    have := dig_ne _ c hc
    rw [e2] at this
    exact this rfl

end Go.Proofs.YthfemghfkfmkdaaDoor
