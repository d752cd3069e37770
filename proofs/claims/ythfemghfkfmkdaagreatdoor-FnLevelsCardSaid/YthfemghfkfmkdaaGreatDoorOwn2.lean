/- 'out = append(out, y)' onto a row of the call's own: behind it the row lies where it lay, or in a new block. -/
import Derived.Test.YthfemghfkfmkdaaGreatDoorReg
import Derived.ArgAppend
namespace Go.Proofs.YthfemghfkfmkdaaGreatDoor
open Go.RowKit

theorem gb_any {w w' : World} (h : w.grownBy w' none) (row : Option Nat) : w.grownBy w' row := ⟨h.os, h.tape, h.output, h.size, fun k hk _ => h.block k hk (by simp)⟩

theorem own_mono {w : World} {base base' : Nat} {e : TypeId} {size : Nat} {v : Value} {n : Nat} {xs : List Value} (h : w.ownsRow base e size v n xs) (hb : base' ≤ base) : w.ownsRow base' e size v n xs :=
  ⟨h.1, h.2.imp id (fun ⟨g, cap, cur, e, hg, r⟩ => ⟨g, cap, cur, e, Nat.le_trans hb hg, r⟩)⟩

theorem wpl_appD {ops : Array Oper} {rest : List Oper} {o : Oper} {a : Act} {Q : Exit → Act → World → Prop} (hgd : o.guard = none) (s x : Operand)
    (ho : o.op = .call { callee := .builtin .append, args := #[s, x], argTypes := #[24, 24] }) (W : World) (base n : Nat) (v : Value) (xs : List Int) (y : Int)
    (hs : a.eval s = v) (hown : W.ownsRow base 2 1 v n (xs.map (Value.int .i64))) (hx : a.eval x = .slice (some ⟨W.heap.size, 0, none⟩) 1 1) (hn : n ≤ 1048576) (hbase : base ≤ W.heap.size)
    (h : ∀ v' w', w'.ownsRow base 2 1 v' (n + 1) ((xs ++ [y]).map (Value.int .i64)) → (W.alloc (.cells #[.int .i64 y] 2)).grownBy w' v.ownBlock → (v'.ownBlock = v.ownBlock ∨ ∀ g, v'.ownBlock = some g → W.heap.size < g) → wpList Tryz.prog ops Q rest (a.put o.dst v') w') :
    wpList Tryz.prog ops Q (o :: rest) a (W.alloc (.cells #[.int .i64 y] 2)) := by
  obtain ⟨i0, hi, hz0, hz1, hz2⟩ := info_parts info_i64
  have hnews : ∀ j u, [Value.int .i64 y][j]? = some u → (W.alloc (.cells #[.int .i64 y] 2)).cell? ((⟨W.heap.size, 0, none⟩ : Addr).add j) = some u := by
    intro j u hj
    cases j with
    | zero => simp at hj; subst hj; simp [Addr.add]
    | succ j => simp at hj
  have hone : ∀ u ∈ [Value.int .i64 y], u.oneCell' = true := by
    intro u hu
    simp at hu
    subst hu
    rfl
  have hA := hown.alloc (.cells #[.int .i64 y] 2)
  have hlen : (xs.map (Value.int .i64)).length = n * 1 := by have := hown.1; simpa using this
  rcases hown.2 with ⟨rfl, rfl⟩ | ⟨g, cap, cur, rfl, hbg, hg, hnc, hcm, hcs, htake⟩
  · refine wpList_append_grows (P := Tryz.prog) _ hgd s x 24 ho 2 i0 (.int .i64 0) 1 8 Tryz.underlying24 hi hz0 hz1 hz2 rfl (by decide) none 0 0 (xs.map (Value.int .i64)) hs (fun _ => ⟨rfl, rfl⟩) hlen (by simp) ⟨W.heap.size, 0, none⟩ 1 1 [.int .i64 y] hx rfl hnews hone (by omega) (by simp only [maxLen]; omega) (by omega) ?_
    intro v' w' h1 h2
    have hb := h1.lt
    refine h v' w' (by simpa using own_mono h1 (base' := base) (by simp; omega)) (gb_any h2 _) (.inr fun g e => ?_)
    have := (hb g e).1
    simp at this
    omega
  · by_cases hroom : n + 1 ≤ cap
    · refine wpList_append_fits (P := Tryz.prog) _ hgd s x 24 ho base 2 i0 1 Tryz.underlying24 hi hz1 g n cap (xs.map (Value.int .i64)) hs hA ⟨W.heap.size, 0, none⟩ 1 1 [.int .i64 y] hx rfl hnews hone hroom ?_
      intro w' h1 h2
      exact h _ w' (by simpa using h1) h2 (.inl rfl)
    · refine wpList_append_grows (P := Tryz.prog) _ hgd s x 24 ho 2 i0 (.int .i64 0) 1 8 Tryz.underlying24 hi hz0 hz1 hz2 rfl (by decide) (some ⟨g, 0, none⟩) n cap (xs.map (Value.int .i64)) hs (fun e => by cases e) hlen (fun b e => by injection e with e; subst e; exact hA.cells rfl) ⟨W.heap.size, 0, none⟩ 1 1 [.int .i64 y] hx rfl hnews hone (by omega) (by simp only [maxLen]; omega) (by omega) ?_
      intro v' w' h1 h2
      have hb := h1.lt
      refine h v' w' (by simpa using own_mono h1 (base' := base) (by simp; omega)) (gb_any h2 _) (.inr fun g e => ?_)
      have := (hb g e).1
      simp at this
      omega

end Go.Proofs.YthfemghfkfmkdaaGreatDoor
