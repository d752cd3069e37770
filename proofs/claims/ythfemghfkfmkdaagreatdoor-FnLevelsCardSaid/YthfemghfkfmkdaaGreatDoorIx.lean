/- the indices below a number that have something -/
import Derived.Test.YthfemghfkfmkdaaGreatDoorReg
import Derived.Test.YthfemghfkfmkdaaGreatDoorOwnS
namespace Go.Proofs.YthfemghfkfmkdaaGreatDoor
open Go.RowKit

def ixN (p : Nat → Bool) : Nat → List Int
  | 0 => []
  | k + 1 => ixN p k ++ if p k then [(k : Int)] else []
theorem ixN_yes {p : Nat → Bool} {k : Nat} (c : p k = true) : ixN p (k + 1) = ixN p k ++ [(k : Int)] := by simp only [ixN]; rw [if_pos c]
theorem ixN_no {p : Nat → Bool} {k : Nat} (c : p k = false) : ixN p (k + 1) = ixN p k := by simp only [ixN]; rw [c]; simp
theorem ixN_len (p : Nat → Bool) (k : Nat) : (ixN p k).length ≤ k := by
  induction k with
  | zero => simp [ixN]
  | succ k ih => simp only [ixN]; split <;> simp <;> omega
theorem ixN_congr {p q : Nat → Bool} {n : Nat} (h : ∀ k, k < n → p k = q k) : ixN p n = ixN q n := by
  induction n with
  | zero => rfl
  | succ n ih => simp only [ixN]; rw [ih (fun k hk => h k (by omega)), h n (by omega)]

theorem wpl_app1x {ops : Array Oper} {rest : List Oper} {o : Oper} {a : Act} {Q : Exit → Act → World → Prop} (hgd : o.guard = none) (s x : Operand)
    (ho : o.op = .call { callee := .builtin .append, args := #[s, x], argTypes := #[24, 24] }) (W : World) (k : Nat) (hk : W.heap.size = k) (base n : Nat) (v : Value) (xs : List Int) (y : Int)
    (hs : a.eval s = v) (hown : W.ownsRow base 2 1 v n (xs.map (Value.int .i64))) (hx : a.eval x = .slice (some ⟨k, 0, none⟩) 1 1) (hn : n ≤ 1048576) (hbase : base ≤ W.heap.size)
    (h : ∀ v' w', w'.ownsRow base 2 1 v' (n + 1) ((xs ++ [y]).map (Value.int .i64)) → Below base W w' → W.heap.size ≤ w'.heap.size → wpList Tryz.prog ops Q rest (a.put o.dst v') w') :
    wpList Tryz.prog ops Q (o :: rest) a (W.alloc (.cells #[.int .i64 y] 2)) := by
  subst hk
  exact wpl_app1 hgd s x ho W base n v xs y hs hown hx hn hbase h

theorem below_drew2 {B : Nat} {w w' : World} (h : Below B w.drew w') : Below B w w' := ⟨h.os, h.tape, h.output, h.size, h.block⟩
theorem wpApp_own1x {o : Oper} {a : Act} {K : Act → World → Prop} {Q : Exit → Act → World → Prop} (s x : Operand)
    (ho : o.op = .call { callee := .builtin .append, args := #[s, x], argTypes := #[24, 24] }) (W : World) (k : Nat) (hk : W.heap.size = k) (base n : Nat) (v : Value) (xs : List Int) (y : Int)
    (hs : a.eval s = v) (hown : W.ownsRow base 2 1 v n (xs.map (Value.int .i64))) (hx : a.eval x = .slice (some ⟨k, 0, none⟩) 1 1) (hn : n ≤ 1048576) (hbase : base ≤ W.heap.size)
    (h : ∀ v' w', w'.ownsRow base 2 1 v' (n + 1) ((xs ++ [y]).map (Value.int .i64)) → Below base W w' → W.heap.size ≤ w'.heap.size → K (a.put o.dst v') w') :
    o.wp Tryz.prog a (W.alloc (.cells #[.int .i64 y] 2)) K Q := by
  subst hk
  obtain ⟨i0, hi, hz0, hz1, hz2⟩ := info_parts info_i64
  refine wp_append_own (P := Tryz.prog) _ s x 24 ho base 2 i0 (.int .i64 0) 1 8 Tryz.underlying24 hi hz0 hz1 hz2 rfl (by decide) v n (xs.map (Value.int .i64)) hs (hown.alloc _) ⟨W.heap.size, 0, none⟩ 1 1 [.int .i64 y] hx rfl ?_ ?_ (by simp only [maxLen]; omega) (by omega) (by simp; omega) ?_
  · intro j u hj
    cases j with
    | zero => simp at hj; subst hj; simp [Addr.add]
    | succ j => simp at hj
  · intro u hu
    simp at hu
    subst hu
    rfl
  · intro v' w' h1 h2 _
    have hb := below_row (hown.alloc _) h2 (by simp; omega)
    have hz := h2.size
    simp at hz
    exact h v' w' (by simpa using h1) (((Below.refl _ _).alloc hbase _).trans hb) (by omega)

end Go.Proofs.YthfemghfkfmkdaaGreatDoor
