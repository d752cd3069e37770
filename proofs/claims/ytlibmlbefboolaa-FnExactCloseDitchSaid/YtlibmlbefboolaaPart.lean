/- Parts of a row: its first records, and those from one on. -/
import Derived.Test.YtlibmlbefboolaaRDitch
namespace Go.Proofs.Ytlibmlbefboolaa
open Go.RowKit

theorem flat_take {α : Type} {enc : α → List Value} {s : Nat} (hs : ∀ x, (enc x).length = s) (xs : List α) (k : Nat) (hk : k ≤ xs.length) : (xs.take k).flatMap enc = (xs.flatMap enc).take (k * s) := by
  induction xs generalizing k with
  | nil => simp
  | cons x xs ih =>
    cases k with
    | zero => simp
    | succ k =>
      simp only [List.take_succ_cons, List.flatMap_cons]
      rw [ih k (by simpa using hk), List.take_append, hs x, List.take_of_length_le (l := enc x) (by rw [hs x, Nat.succ_mul]; omega), show (k + 1) * s - s = k * s by rw [Nat.succ_mul]; omega]
theorem flat_drop {α : Type} {enc : α → List Value} {s : Nat} (hs : ∀ x, (enc x).length = s) (xs : List α) (k : Nat) (hk : k ≤ xs.length) : (xs.drop k).flatMap enc = (xs.flatMap enc).drop (k * s) := by
  induction xs generalizing k with
  | nil => simp
  | cons x xs ih =>
    cases k with
    | zero => simp
    | succ k =>
      simp only [List.drop_succ_cons, List.flatMap_cons]
      rw [ih k (by simpa using hk), List.drop_append, hs x, List.drop_of_length_le (l := enc x) (by rw [hs x, Nat.succ_mul]; omega), show (k + 1) * s - s = k * s by rw [Nat.succ_mul]; omega, List.nil_append]
theorem RdC.take {w : World} {B n s : Nat} {A : Option Addr} {cs : List Value} (h : RdC w B A n s cs) {k : Nat} (hk : k ≤ n) : RdC w B A k s (cs.take (k * s)) := by
  have hm := Nat.mul_le_mul_right s hk
  refine ⟨by rw [List.length_take, h.1]; omega, fun h0 => ?_⟩
  obtain ⟨b, off, e, hB, hc⟩ := h.2 (by omega)
  refine ⟨b, off, e, hB, fun j hj => ?_⟩
  rw [List.length_take] at hj
  rw [List.getElem?_take, if_pos (by omega)]
  exact hc j (by omega)
theorem RdC.drop {w : World} {B n s b o : Nat} {cs : List Value} (h : RdC w B (some ⟨b, o, none⟩) n s cs) {k : Nat} (hk : k ≤ n) : RdC w B (some ⟨b, o + k * s, none⟩) (n - k) s (cs.drop (k * s)) := by
  have hm := Nat.mul_le_mul_right s hk
  refine ⟨by rw [List.length_drop, h.1, Nat.sub_mul], fun h0 => ?_⟩
  obtain ⟨b', off, e, hB, hc⟩ := h.2 (by omega)
  injection e with e
  injection e with e1 e2
  subst e1
  subst e2
  refine ⟨b, o + k * s, rfl, hB, fun j hj => ?_⟩
  rw [List.length_drop] at hj
  rw [List.getElem?_drop, Nat.add_assoc]
  exact hc (k * s + j) (by omega)
theorem Rd_Ditch.take {w : World} {B n : Nat} {A : Option Addr} {xs : List RDitch} (h : Rd_Ditch w B A n xs) {k : Nat} (hk : k ≤ n) : Rd_Ditch w B A k (xs.take k) := by
  have hl := h.len
  unfold Rd_Ditch csDitch
  rw [flat_take encDitch_len xs k (by omega)]
  exact RdC.take h hk
theorem Rd_Ditch.drop {w : World} {B n b o : Nat} {xs : List RDitch} (h : Rd_Ditch w B (some ⟨b, o, none⟩) n xs) {k : Nat} (hk : k ≤ n) : Rd_Ditch w B (some ⟨b, o + k * 3, none⟩) (n - k) (xs.drop k) := by
  have hl := h.len
  unfold Rd_Ditch csDitch
  rw [flat_drop encDitch_len xs k (by omega)]
  exact RdC.drop h hk
theorem Rd_Ditch.none0 (w : World) (B : Nat) (A : Option Addr) : Rd_Ditch w B A 0 [] := ⟨rfl, fun h => absurd h (by omega)⟩
/-- the part behind one, as the machine writes its address -/
theorem Rd_Ditch.cut {w : World} {B n b o c : Nat} {xs : List RDitch} (h : Rd_Ditch w B (some ⟨b, o, none⟩) n xs) {k : Nat} (hk : k ≤ n) (hc : n ≤ c) : Rd_Ditch w B (if c = k then some ⟨b, o, none⟩ else some ⟨b, o + k * 3, none⟩) (n - k) (xs.drop k) := by
  have hl := h.len
  by_cases e : c = k
  · obtain rfl : k = n := by omega
    rw [if_pos e, Nat.sub_self, List.drop_of_length_le (by omega)]
    exact Rd_Ditch.none0 _ _ _
  · rw [if_neg e]
    exact h.drop hk

end Go.Proofs.Ytlibmlbefboolaa
