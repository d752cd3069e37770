/- slices.Grow of nil and slices.Concat of two, at []Section; appends of rows of records. -/
import Derived.Test.YticbnahndidplaaDoorRSection
import Derived.Test.YticbnahndidplaaDoorOwnS
import Derived.Lib.AppendZeros
namespace Go.Proofs.YticbnahndidplaaDoor
open Go.RowKit

theorem oneSection (xs : List RSection) : ∀ u ∈ csSection xs, u.oneCell' = true := by
  intro u hu
  unfold csSection at hu
  obtain ⟨x, _, hx⟩ := List.mem_flatMap.1 hu
  simp [encSection] at hx
  rcases hx with rfl | rfl <;> rfl

theorem run_app_noneSection (W : World) (base : Nat) (ty : TypeId) (v : Value) (n : Nat) (cs : List Value) (hown : W.ownsRow base 62 2 v n cs) (c : Nat) :
    (Builtin.append_ #[25, 25] ty #[v, .slice none 0 c]).run Tryd.prog W = .ok v W := by
  obtain ⟨i0, hi, hz0, hz1, hz2⟩ := info_parts info_Section
  rcases hown.2 with ⟨rfl, rfl⟩ | ⟨g, cap, cur, rfl, _, _, hnc, _⟩
  · simp [Builtin.append_, run_underlying Tryd.underlying25, sizeOf, typeInfo, hi, Builtin.lenOf, Builtin.firstCells]
  · simp [Builtin.append_, run_underlying Tryd.underlying25, sizeOf, typeInfo, hi, Builtin.lenOf, Builtin.firstCells, hnc, storeCells]

set_option maxRecDepth 100000 in
/-- 'append(v, x...)' onto a row of the call's own, x a row of records, nil or not -/
theorem wpAppSection {o : Oper} {a : Act} {K : Act → World → Prop} {Q : Exit → Act → World → Prop} (s x : Operand)
    (ho : o.op = .call { callee := .builtin .append, args := #[s, x], argTypes := #[25, 25] }) (W : World) (base n m c B : Nat) (A : Option Addr) (v : Value) (cs : List Value) (ys : List RSection)
    (hs : a.eval s = v) (hown : W.ownsRow base 62 2 v n cs) (hx : a.eval x = .slice A m c) (hA : Rd_Section W B A m ys) (hn : n + m ≤ 4194304) (hbase : base ≤ W.heap.size)
    (h : ∀ v' w', w'.ownsRow base 62 2 v' (n + m) (cs ++ csSection ys) → Below base W w' → W.heap.size ≤ w'.heap.size → K (a.put o.dst v') w') :
    o.wp Tryd.prog a W K Q := by
  obtain ⟨i0, hi, hz0, hz1, hz2⟩ := info_parts info_Section
  cases A with
  | none =>
    have hm : m = 0 := Nat.eq_zero_of_not_pos (fun h0 => by
      obtain ⟨b, off, e, _⟩ := hA.2 h0
      cases e)
    subst hm
    have hy : ys = [] := List.length_eq_zero_iff.1 hA.len
    subst hy
    refine Lib.wp_append_run _ s x 25 25 ho _ _ hs hx v W (run_app_noneSection W base o.type v n cs hown c) (h v W (by simpa [csSection] using hown) (Below.refl _ _) (Nat.le_refl _))
  | some ad =>
    have hcell : ∀ (j : Nat) (u : Value), (csSection ys)[j]? = some u → W.cell? (ad.add j) = some u := by
      intro j u hj
      by_cases hm : m = 0
      · subst hm
        have hy : ys = [] := List.length_eq_zero_iff.1 hA.len
        subst hy
        simp [csSection] at hj
      · obtain ⟨b, off, e, _, hc⟩ := hA.2 (by omega)
        injection e with e
        subst e
        rw [addr_add, hc j (List.getElem?_eq_some_iff.1 hj).1]
        exact hj
    refine wp_append_own (P := Tryd.prog) _ s x 25 ho base 62 i0 (.agg #[.int .i64 0, .int .i64 0]) 2 16 Tryd.underlying25 hi hz0 hz1 hz2 rfl (by decide) v n cs hs hown ad m c (csSection ys) hx (by rw [csSection_len, hA.len]) hcell (oneSection ys) (by simp only [maxLen]; omega) (by omega) hbase ?_
    intro v' w' h1 h2 _
    exact h v' w' h1 (below_row hown h2 hbase) h2.size

set_option maxRecDepth 100000 in
theorem wplAppSection {ops : Array Oper} {rest : List Oper} {o : Oper} {a : Act} {Q : Exit → Act → World → Prop} (hgd : o.guard = none) (s x : Operand)
    (ho : o.op = .call { callee := .builtin .append, args := #[s, x], argTypes := #[25, 25] }) (W : World) (base n m c B : Nat) (A : Option Addr) (v : Value) (cs : List Value) (ys : List RSection)
    (hs : a.eval s = v) (hown : W.ownsRow base 62 2 v n cs) (hx : a.eval x = .slice A m c) (hA : Rd_Section W B A m ys) (hn : n + m ≤ 4194304) (hbase : base ≤ W.heap.size)
    (h : ∀ v' w', w'.ownsRow base 62 2 v' (n + m) (cs ++ csSection ys) → Below base W w' → W.heap.size ≤ w'.heap.size → wpList Tryd.prog ops Q rest (a.put o.dst v') w') :
    wpList Tryd.prog ops Q (o :: rest) a W :=
  wpList_plain hgd fun _ hK => wpAppSection s x ho W base n m c B A v cs ys hs hown hx hA hn hbase fun v' w' h1 h2 h3 => hK _ _ (h v' w' h1 h2 h3)

theorem one_rdSection (W : World) (x : RSection) (e : TypeId) : Rd_Section (W.alloc (.cells (encSection x).toArray e)).drew (W.heap.size + 1) (some ⟨W.heap.size, 0, none⟩) 1 [x] :=
  ⟨by simp [csSection, encSection], fun _ => ⟨W.heap.size, 0, rfl, by omega, fun j _ => by
    rw [Nat.zero_add]
    refine (World.cell?_alloc_new (w := W) (encSection x).toArray e j).trans ?_
    simp [csSection]⟩⟩
theorem own_wrSection {w : World} {base : Nat} {v : Value} {n : Nat} {xs : List RSection} (h : w.ownsRow base 62 2 v n (csSection xs)) : ∃ A c, v = .slice A n c ∧ Wr_Section w base A n xs := own_wrC h

def CatRelSection (n m : Nat) (xs ys : List RSection) (w : World) (V i : Value) (wr : World) : Prop :=
  Below w.heap.size w wr ∧ ((i = .int .i64 0 ∧ wr.ownsRow w.heap.size 62 2 V 0 []) ∨ (i = .int .i64 1 ∧ wr.ownsRow w.heap.size 62 2 V n (csSection xs)) ∨ (i = .int .i64 2 ∧ wr.ownsRow w.heap.size 62 2 V (n + m) (csSection (xs ++ ys))))
end Go.Proofs.YticbnahndidplaaDoor
