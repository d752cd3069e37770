/- Copies: l00Own of the model, slices.Clone; appends of one number. -/
import Derived.Test.YtfpfmfhhcgafcabDoorReg
import Derived.Deep.RegionHeld3
namespace Go.Proofs.YtfpfmfhhcgafcabDoor
open Go.RowKit

theorem owns_made {W : World} {k base : Nat} {e : TypeId} (hk : W.heap.size = k) (hb : base ≤ k) : (W.alloc (.cells #[] e)).ownsRow base e 1 (.slice (some ⟨k, 0, none⟩) 0 0) 0 [] := by
  subst hk
  exact World.ownsRow_made _ _ _ hb (by simp [maxLen]) rfl

theorem owns_one {W : World} {base : Nat} {e : TypeId} (hb : base ≤ W.heap.size) (y : Int) : (W.alloc (.cells #[.int .i64 y] e)).ownsRow base e 1 (.slice (some ⟨W.heap.size, 0, none⟩) 1 1) 1 [.int .i64 y] :=
  ⟨rfl, .inr ⟨W.heap.size, 1, #[.int .i64 y], rfl, hb, heap_alloc_new W _, Nat.le_refl _, by simp [maxLen], rfl, rfl⟩⟩
theorem owns_one_k {W : World} {k base : Nat} {e : TypeId} (hk : W.heap.size = k) (hb : base ≤ k) (y : Int) : (W.alloc (.cells #[.int .i64 y] e)).ownsRow base e 1 (.slice (some ⟨k, 0, none⟩) 1 1) 1 [.int .i64 y] := by
  subst hk
  exact owns_one hb y
theorem owns_below {w w' : World} {base n size : Nat} {e : TypeId} {v : Value} {xs : List Value} (h : w.ownsRow base e size v n xs) (hb : Below w.heap.size w w') : w'.ownsRow base e size v n xs :=
  h.kept (gb_of_below hb none) (by cases hv : v.ownBlock <;> simp)

/-- 'append(v, x...)' onto a row of the call's own. -/
theorem wpl_appN {ops : Array Oper} {rest : List Oper} {o : Oper} {a : Act} {Q : Exit → Act → World → Prop} (hgd : o.guard = none) (s x : Operand)
    (ho : o.op = .call { callee := .builtin .append, args := #[s, x], argTypes := #[22, 22] }) (W : World) (base n m c : Nat) (A : Addr) (v : Value) (xs ys : List Int)
    (hs : a.eval s = v) (hown : W.ownsRow base 2 1 v n (xs.map (Value.int .i64))) (hx : a.eval x = .slice (some A) m c) (hA : Rd W W.heap.size (some A) m ys) (hm : 0 < m) (hn : n + m ≤ 4194304) (hbase : base ≤ W.heap.size)
    (h : ∀ v' w', w'.ownsRow base 2 1 v' (n + m) ((xs ++ ys).map (Value.int .i64)) → Below base W w' → W.heap.size ≤ w'.heap.size → wpList Tryd.prog ops Q rest (a.put o.dst v') w') :
    wpList Tryd.prog ops Q (o :: rest) a W := by
  obtain ⟨i0, hi, hz0, hz1, hz2⟩ := info_parts info_i64
  obtain ⟨hl, hr⟩ := hA
  obtain ⟨b, off, e, hb, hc⟩ := hr hm
  injection e with e
  subst e
  refine wpList_append_own (P := Tryd.prog) _ hgd s x 22 ho base 2 i0 (.int .i64 0) 1 8 Tryd.underlying22 hi hz0 hz1 hz2 rfl (by decide) v n (xs.map (Value.int .i64)) hs hown ⟨b, off, none⟩ m c (ys.map (Value.int .i64)) hx (by simp [hl]) ?_ ?_ (by simp only [maxLen]; omega) (by omega) hbase ?_
  · intro j u hj
    rw [addr_add]
    rw [List.getElem?_map] at hj
    cases hy : ys[j]? with
    | none => rw [hy] at hj; simp at hj
    | some y =>
      rw [hy] at hj
      have hj' : j < ys.length := (List.getElem?_eq_some_iff.1 hy).1
      rw [hc j (by omega), List.getD_eq_getElem?_getD, hy]
      simpa using hj
  · intro u hu
    simp at hu
    obtain ⟨y, _, rfl⟩ := hu
    rfl
  · intro v' w' h1 h2 _
    have hb := below_row hown h2 hbase
    exact h v' w' (by simpa using h1) hb h2.size

/-- the same where nothing is appended -/
theorem wpl_app0 {ops : Array Oper} {rest : List Oper} {o : Oper} {a : Act} {Q : Exit → Act → World → Prop} (hgd : o.guard = none) (s x : Operand)
    (ho : o.op = .call { callee := .builtin .append, args := #[s, x], argTypes := #[22, 22] }) (W : World) (base n c : Nat) (A : Addr) (v : Value) (xs : List Int)
    (hs : a.eval s = v) (hown : W.ownsRow base 2 1 v n (xs.map (Value.int .i64))) (hx : a.eval x = .slice (some A) 0 c) (hn : n ≤ 4194304) (hbase : base ≤ W.heap.size)
    (h : ∀ v' w', w'.ownsRow base 2 1 v' n (xs.map (Value.int .i64)) → Below base W w' → W.heap.size ≤ w'.heap.size → wpList Tryd.prog ops Q rest (a.put o.dst v') w') :
    wpList Tryd.prog ops Q (o :: rest) a W := by
  obtain ⟨i0, hi, hz0, hz1, hz2⟩ := info_parts info_i64
  refine wpList_append_own (P := Tryd.prog) _ hgd s x 22 ho base 2 i0 (.int .i64 0) 1 8 Tryd.underlying22 hi hz0 hz1 hz2 rfl (by decide) v n (xs.map (Value.int .i64)) hs hown A 0 c [] hx rfl ?_ ?_ (by simp only [maxLen]; omega) (by omega) hbase ?_
  · intro j u hj
    simp at hj
  · intro u hu
    simp at hu
  · intro v' w' h1 h2 _
    have hb := below_row hown h2 hbase
    exact h v' w' (by simpa using h1) hb h2.size
end Go.Proofs.YtfpfmfhhcgafcabDoor
