/- Rows of strings: that read, that may be written; appends; the helpers eq, mark, held of []string. -/
import Derived.Test.YticbnahndidplaaDoorBase
namespace Go.Proofs.YticbnahndidplaaDoor
open Go.RowKit

theorem info_str : (Tryd.prog.info? 9).map (fun i => (i.zero, i.size, i.bytes)) = some (some (.string ⟨#[]⟩), 1, 16) := by kernel_rfl
/-- The slice (A, n) reads as the texts xs, and lies in a block below B. -/
def RdS (w : World) (B : Nat) (A : Option Addr) (n : Nat) (xs : List ByteArray) : Prop :=
  xs.length = n ∧ (0 < n → ∃ b off, A = some ⟨b, off, none⟩ ∧ b < B ∧ ∀ j, j < n → w.cell? ⟨b, off + j, none⟩ = some (.string (xs.getD j ⟨#[]⟩)))
/-- The slice (A, n) reads as the texts xs, and may be written; its block is not below base. -/
def WrS (w : World) (base : Nat) (A : Option Addr) (n : Nat) (xs : List ByteArray) : Prop :=
  xs.length = n ∧ (0 < n → ∃ b off, A = some ⟨b, off, none⟩ ∧ base ≤ b ∧ b < w.heap.size ∧ ∀ j, j < n → w.cell? ⟨b, off + j, none⟩ = some (.string (xs.getD j ⟨#[]⟩)) ∧ w.frozen? ⟨b, off + j, none⟩ = false)
theorem RdS.below {w w' : World} {B : Nat} {A : Option Addr} {n : Nat} {xs : List ByteArray} (h : RdS w B A n xs) (hb : Below B w w') : RdS w' B A n xs :=
  ⟨h.1, fun hn => by
    obtain ⟨b, off, e, hB, hc⟩ := h.2 hn
    exact ⟨b, off, e, hB, fun j hj => (hb.cell (p := ⟨b, off + j, none⟩) hB).trans (hc j hj)⟩⟩
theorem RdS.mono {w : World} {B B' : Nat} {A : Option Addr} {n : Nat} {xs : List ByteArray} (h : RdS w B A n xs) (hB' : B ≤ B') : RdS w B' A n xs :=
  ⟨h.1, fun hn => by
    obtain ⟨b, off, e, hB, hc⟩ := h.2 hn
    exact ⟨b, off, e, by omega, hc⟩⟩
theorem WrS.rd {w : World} {base : Nat} {A : Option Addr} {n : Nat} {xs : List ByteArray} (h : WrS w base A n xs) : RdS w w.heap.size A n xs :=
  ⟨h.1, fun hn => by
    obtain ⟨b, off, e, _, hB, hc⟩ := h.2 hn
    exact ⟨b, off, e, hB, fun j hj => (hc j hj).1⟩⟩
theorem WrS.below {w w' : World} {base : Nat} {A : Option Addr} {n : Nat} {xs : List ByteArray} (h : WrS w base A n xs) (hb : Below w.heap.size w w') : WrS w' base A n xs :=
  ⟨h.1, fun hn => by
    obtain ⟨b, off, e, h0, hB, hc⟩ := h.2 hn
    exact ⟨b, off, e, h0, Nat.lt_of_lt_of_le hB hb.size, fun j hj => ⟨(hb.cell (p := ⟨b, off + j, none⟩) hB).trans (hc j hj).1, (hb.frozen (p := ⟨b, off + j, none⟩) hB).trans (hc j hj).2⟩⟩⟩
theorem WrS.lower {w : World} {lo lo' : Nat} {A : Option Addr} {n : Nat} {xs : List ByteArray} (h : WrS w lo A n xs) (hl : lo' ≤ lo) : WrS w lo' A n xs :=
  ⟨h.1, fun hn => by
    obtain ⟨b, off, e, h0, hb, hc⟩ := h.2 hn
    exact ⟨b, off, e, by omega, hb, hc⟩⟩
theorem WrS.drewN {w : World} {base : Nat} {A : Option Addr} {n : Nat} {xs : List ByteArray} (h : WrS w base A n xs) (m : Nat) : WrS (w.drewN m) base A n xs := h
theorem getD_setS (xs : List ByteArray) (i j : Nat) (v : ByteArray) (hi : i < xs.length) : (xs.set i v).getD j ⟨#[]⟩ = if j = i then v else xs.getD j ⟨#[]⟩ := by
  simp only [List.getD_eq_getElem?_getD, List.getElem?_set]
  by_cases h : i = j
  · subst h; simp [hi]
  · have h2 : ¬ j = i := fun e => h e.symm
    simp [h, h2]
theorem WrS.put {w : World} {lo b o n i : Nat} {xs : List ByteArray} (h : WrS w lo (some ⟨b, o, none⟩) n xs) (hi : i < n) (v : ByteArray) : WrS (w.setCell ⟨b, o + i, none⟩ (.string v)) lo (some ⟨b, o, none⟩) n (xs.set i v) :=
  ⟨by simp [h.1], fun hn => by
    obtain ⟨b', off, e, h0, hB, hc⟩ := h.2 hn
    injection e with e
    injection e with e1 e2
    subst e1
    subst e2
    refine ⟨b, o, rfl, h0, by simpa [World.setCell] using hB, fun j hj => ?_⟩
    obtain ⟨c1, c2⟩ := hc j hj
    refine ⟨?_, by simpa using c2⟩
    rw [getD_setS xs i j v (by have := h.1; omega)]
    by_cases e : j = i
    · subst e
      rw [World.cell?_setCell_same w _ _ c1, if_pos rfl]
    · rw [World.cell?_setCell_other w _ _ _ (fun h => e (by simpa using h.symm)), c1, if_neg e]⟩
theorem own_wrS {w : World} {base : Nat} {e : TypeId} {v : Value} {n : Nat} {xs : List ByteArray} (h : w.ownsRow base e 1 v n (xs.map Value.string)) : ∃ A c, v = .slice A n c ∧ WrS w base A n xs := by
  have hl : xs.length = n := by simpa using h.1
  rcases h.2 with ⟨rfl, rfl⟩ | ⟨g, cap, cur, rfl, hb, hg, hnc, hm, hsz, htake⟩
  · exact ⟨none, 0, rfl, hl, fun h => absurd h (by omega)⟩
  · refine ⟨_, cap, rfl, hl, fun hn => ⟨g, 0, rfl, hb, (h.lt g rfl).2, fun j hj => ⟨?_, frozen_of_row hg _⟩⟩⟩
    rw [cell_of_row _ _ _ _ _ _ hg, Nat.zero_add]
    have h1 : (cur.toList.take (n * 1))[j]? = (xs.map Value.string)[j]? := by rw [htake]
    rw [Nat.mul_one, List.getElem?_take, if_pos hj] at h1
    rw [← Array.getElem?_toList, h1]
    have hj' : j < xs.length := by omega
    simp [List.getD_eq_getElem?_getD, hj']

/-- 'out = append(out, y)' at rows of texts -/
theorem wpl_appS {ops : Array Oper} {rest : List Oper} {o : Oper} {a : Act} {Q : Exit → Act → World → Prop} (hgd : o.guard = none) (s x : Operand)
    (ho : o.op = .call { callee := .builtin .append, args := #[s, x], argTypes := #[52, 52] }) (W : World) (base n : Nat) (v : Value) (xs : List ByteArray) (y : ByteArray)
    (hs : a.eval s = v) (hown : W.ownsRow base 9 1 v n (xs.map Value.string)) (hx : a.eval x = .slice (some ⟨W.heap.size, 0, none⟩) 1 1) (hn : n ≤ 1048576) (hbase : base ≤ W.heap.size)
    (h : ∀ v' w', w'.ownsRow base 9 1 v' (n + 1) ((xs ++ [y]).map Value.string) → Below base W w' → W.heap.size ≤ w'.heap.size → wpList Tryd.prog ops Q rest (a.put o.dst v') w') :
    wpList Tryd.prog ops Q (o :: rest) a (W.alloc (.cells #[.string y] 9)) := by
  obtain ⟨i0, hi, hz0, hz1, hz2⟩ := info_parts info_str
  refine wpList_append_own (P := Tryd.prog) _ hgd s x 52 ho base 9 i0 (.string ⟨#[]⟩) 1 16 Tryd.underlying52 hi hz0 hz1 hz2 rfl (by decide) v n (xs.map Value.string) hs (hown.alloc _) ⟨W.heap.size, 0, none⟩ 1 1 [.string y] hx rfl ?_ ?_ (by simp only [maxLen]; omega) (by omega) (by simp; omega) ?_
  · intro j u hj
    cases j with
    | zero => simp at hj; subst hj; simp [Addr.add]
    | succ j => simp at hj
  · intro u hu
    simp at hu
    subst hu
    rfl
  · intro v' w' h1 h2 _
    have hb := below_row (hown.alloc _) h2 (by simp; omega)
    have hz := h2.size
    simp at hz
    exact h v' w' (by simpa using h1) (((Below.refl _ _).alloc hbase _).trans hb) (by omega)
end Go.Proofs.YticbnahndidplaaDoor
