/- append of a number to a row of the call's own, and where the new row lies (over AppendLies); two rows in the fields of a struct that grow in turn. -/
import Derived.Test.YtcimigaimlojlaaOwnS
import Derived.Deep.AppendLies
namespace Go.Proofs.Ytcimigaimlojlaa
open Go.RowKit

theorem wpLies {o : Oper} {a : Act} {K : Act → World → Prop} {Q : Exit → Act → World → Prop} (s x : Operand)
    (ho : o.op = .call { callee := .builtin .append, args := #[s, x], argTypes := #[37, 37] }) (W : World) (base n : Nat) (v : Value) (xs : List Int) (y : Int)
    (hs : a.eval s = v) (hown : W.ownsRow base 2 1 v n (xs.map (Value.int .i64))) (hx : a.eval x = .slice (some ⟨W.heap.size, 0, none⟩) 1 1) (hn : n ≤ 1048576) (hbase : base ≤ W.heap.size)
    (h : ∀ g cap w', w'.ownsRow base 2 1 (.slice (some ⟨g, 0, none⟩) (n + 1) cap) (n + 1) ((xs ++ [y]).map (Value.int .i64)) → (W.alloc (.cells #[.int .i64 y] 2)).grownBy w' v.ownBlock → (v.ownBlock = some g ∨ g = W.heap.size + 1) → g < w'.heap.size → K (a.put o.dst (.slice (some ⟨g, 0, none⟩) (n + 1) cap)) w') :
    o.wp Try.prog a (W.alloc (.cells #[.int .i64 y] 2)) K Q := by
  obtain ⟨i0, hi, hz0, hz1, hz2⟩ := info_parts info_i64
  refine wp_append_lies _ s x 37 ho base 2 i0 (.int .i64 0) 1 8 Try.underlying37 hi hz0 hz1 hz2 rfl (by decide) v n (xs.map (Value.int .i64)) hs (hown.alloc _) ⟨W.heap.size, 0, none⟩ 1 1 [.int .i64 y] hx rfl ?_ ?_ (by decide) (by simp only [maxLen]; omega) (by omega) (by simp; omega) (W.heap.size + 1) (by simp) ?_
  · intro j u hj
    cases j with
    | zero => simp at hj; subst hj; simp [Addr.add]
    | succ j => simp at hj
  · intro u hu
    simp at hu
    subst hu
    rfl
  · intro g cap w' h1 h2 h3 h4
    exact h g cap w' (by simpa using h1) h2 h3 h4

theorem wplLies {ops : Array Oper} {rest : List Oper} {o : Oper} {a : Act} {Q : Exit → Act → World → Prop} (hgd : o.guard = none) (s x : Operand)
    (ho : o.op = .call { callee := .builtin .append, args := #[s, x], argTypes := #[37, 37] }) (W : World) (base n : Nat) (v : Value) (xs : List Int) (y : Int)
    (hs : a.eval s = v) (hown : W.ownsRow base 2 1 v n (xs.map (Value.int .i64))) (hx : a.eval x = .slice (some ⟨W.heap.size, 0, none⟩) 1 1) (hn : n ≤ 1048576) (hbase : base ≤ W.heap.size)
    (h : ∀ g cap w', w'.ownsRow base 2 1 (.slice (some ⟨g, 0, none⟩) (n + 1) cap) (n + 1) ((xs ++ [y]).map (Value.int .i64)) → (W.alloc (.cells #[.int .i64 y] 2)).grownBy w' v.ownBlock → (v.ownBlock = some g ∨ g = W.heap.size + 1) → g < w'.heap.size → wpList Try.prog ops Q rest (a.put o.dst (.slice (some ⟨g, 0, none⟩) (n + 1) cap)) w') :
    wpList Try.prog ops Q (o :: rest) a (W.alloc (.cells #[.int .i64 y] 2)) :=
  wpList_plain hgd fun _ hK => wpLies s x ho W base n v xs y hs hown hx hn hbase fun g cap w' h1 h2 h3 h4 => hK _ _ (h g cap w' h1 h2 h3 h4)

/-- two rows of the call's own, from block B on, in the two fields of block O; all apart -/
structure Two (w : World) (B O g0 c0 m0 : Nat) (ls : List Int) (g1 c1 m1 : Nat) (vs : List Int) : Prop where
  o0 : w.ownsRow B 2 1 (.slice (some ⟨g0, 0, none⟩) m0 c0) m0 (ls.map (Value.int .i64))
  o1 : w.ownsRow B 2 1 (.slice (some ⟨g1, 0, none⟩) m1 c1) m1 (vs.map (Value.int .i64))
  ne : g0 ≠ g1
  n0 : g0 ≠ O
  n1 : g1 ≠ O
  lt : O < w.heap.size
  b0 : w.cell? ⟨O, 0, none⟩ = some (.slice (some ⟨g0, 0, none⟩) m0 c0)
  b1 : w.cell? ⟨O, 1, none⟩ = some (.slice (some ⟨g1, 0, none⟩) m1 c1)
  f0 : w.frozen? ⟨O, 0, none⟩ = false
  f1 : w.frozen? ⟨O, 1, none⟩ = false
theorem Two.drew {w : World} {B O g0 c0 m0 : Nat} {ls : List Int} {g1 c1 m1 : Nat} {vs : List Int} (h : Two w B O g0 c0 m0 ls g1 c1 m1 vs) : Two w.drew B O g0 c0 m0 ls g1 c1 m1 vs := ⟨h.o0, h.o1, h.ne, h.n0, h.n1, h.lt, h.b0, h.b1, h.f0, h.f1⟩
theorem gbs (w : World) (a : Addr) (v : Value) : w.grownBy (w.setCell a v) (some a.block) := gb_setCell w a v
theorem Two.lt0 {w : World} {B O g0 c0 m0 : Nat} {ls : List Int} {g1 c1 m1 : Nat} {vs : List Int} (h : Two w B O g0 c0 m0 ls g1 c1 m1 vs) : B ≤ g0 ∧ g0 < w.heap.size := h.o0.lt g0 rfl
theorem Two.lt1 {w : World} {B O g0 c0 m0 : Nat} {ls : List Int} {g1 c1 m1 : Nat} {vs : List Int} (h : Two w B O g0 c0 m0 ls g1 c1 m1 vs) : B ≤ g1 ∧ g1 < w.heap.size := h.o1.lt g1 rfl
theorem Two.wr0 {w : World} {B O g0 c0 m0 : Nat} {ls : List Int} {g1 c1 m1 : Nat} {vs : List Int} (h : Two w B O g0 c0 m0 ls g1 c1 m1 vs) : Wr w B (some ⟨g0, 0, none⟩) m0 ls := by
  obtain ⟨A, c, e, hw⟩ := own_wr h.o0
  cases e
  exact hw
theorem Two.wr1 {w : World} {B O g0 c0 m0 : Nat} {ls : List Int} {g1 c1 m1 : Nat} {vs : List Int} (h : Two w B O g0 c0 m0 ls g1 c1 m1 vs) : Wr w B (some ⟨g1, 0, none⟩) m1 vs := by
  obtain ⟨A, c, e, hw⟩ := own_wr h.o1
  cases e
  exact hw
/-- the first row has one number more -/
theorem Two.app0 {w w2 : World} {B O g0 c0 m0 : Nat} {ls : List Int} {g1 c1 m1 : Nat} {vs : List Int} {y : Int} {g cap : Nat} (h : Two w B O g0 c0 m0 ls g1 c1 m1 vs)
    (own : w2.ownsRow B 2 1 (.slice (some ⟨g, 0, none⟩) (m0 + 1) cap) (m0 + 1) ((ls ++ [y]).map (Value.int .i64))) (gb : (w.alloc (.cells #[.int .i64 y] 2)).grownBy w2 (some g0)) (hat : some g0 = some g ∨ g = w.heap.size + 1) :
    Two (w2.setCell ⟨O, 0, none⟩ (.slice (some ⟨g, 0, none⟩) (m0 + 1) cap)) B O g cap (m0 + 1) (ls ++ [y]) g1 c1 m1 vs := by
  have l0 := h.lt0
  have l1 := h.lt1
  have lO := h.lt
  have e0 := h.ne
  have e1 := h.n0
  have e2 := h.n1
  have hg : g ≠ g1 ∧ g ≠ O := by
    rcases hat with hat | hat
    · injection hat with hat; subst hat; exact ⟨e0, e1⟩
    · exact ⟨by omega, by omega⟩
  have sz := gb.size
  simp at sz
  have hc : ∀ j, w2.cell? ⟨O, j, none⟩ = w.cell? ⟨O, j, none⟩ := fun j => (gb.cell_far ⟨O, j, none⟩ (by simp; omega) (fun e => e1 (Option.some.inj e).symm)).trans (World.cell?_of_block (w := w) (a := ⟨O, j, none⟩) (Below.heap_alloc _ _ _ lO))
  have hf : ∀ j, w2.frozen? ⟨O, j, none⟩ = w.frozen? ⟨O, j, none⟩ := fun j => (gb.frozen_far ⟨O, j, none⟩ (by simp; omega) (fun e => e1 (Option.some.inj e).symm)).trans (World.frozen?_of_block (w := w) (a := ⟨O, j, none⟩) (Below.heap_alloc _ _ _ lO))
  exact ⟨own.kept (gbs w2 _ _) (.inr (fun e => hg.2 (Option.some.inj e))), ((h.o1.alloc _).kept gb (.inr (fun e => e0 (Option.some.inj e).symm))).kept (gbs w2 _ _) (.inr (fun e => e2 (Option.some.inj e))), hg.1, hg.2, e2, by simp [World.setCell]; omega,
    World.cell?_setCell_same w2 _ _ ((hc 0).trans h.b0), (World.cell?_setCell_other w2 _ _ _ (by simp)).trans ((hc 1).trans h.b1), by simpa using (hf 0).trans h.f0, by simpa using (hf 1).trans h.f1⟩
/-- the second row has one number more -/
theorem Two.app1 {w w2 : World} {B O g0 c0 m0 : Nat} {ls : List Int} {g1 c1 m1 : Nat} {vs : List Int} {y : Int} {g cap : Nat} (h : Two w B O g0 c0 m0 ls g1 c1 m1 vs)
    (own : w2.ownsRow B 2 1 (.slice (some ⟨g, 0, none⟩) (m1 + 1) cap) (m1 + 1) ((vs ++ [y]).map (Value.int .i64))) (gb : (w.alloc (.cells #[.int .i64 y] 2)).grownBy w2 (some g1)) (hat : some g1 = some g ∨ g = w.heap.size + 1) :
    Two (w2.setCell ⟨O, 1, none⟩ (.slice (some ⟨g, 0, none⟩) (m1 + 1) cap)) B O g0 c0 m0 ls g cap (m1 + 1) (vs ++ [y]) := by
  have l0 := h.lt0
  have l1 := h.lt1
  have lO := h.lt
  have e0 := h.ne
  have e1 := h.n0
  have e2 := h.n1
  have hg : g ≠ g0 ∧ g ≠ O := by
    rcases hat with hat | hat
    · injection hat with hat; subst hat; exact ⟨fun e => e0 e.symm, e2⟩
    · exact ⟨by omega, by omega⟩
  have sz := gb.size
  simp at sz
  have hc : ∀ j, w2.cell? ⟨O, j, none⟩ = w.cell? ⟨O, j, none⟩ := fun j => (gb.cell_far ⟨O, j, none⟩ (by simp; omega) (fun e => e2 (Option.some.inj e).symm)).trans (World.cell?_of_block (w := w) (a := ⟨O, j, none⟩) (Below.heap_alloc _ _ _ lO))
  have hf : ∀ j, w2.frozen? ⟨O, j, none⟩ = w.frozen? ⟨O, j, none⟩ := fun j => (gb.frozen_far ⟨O, j, none⟩ (by simp; omega) (fun e => e2 (Option.some.inj e).symm)).trans (World.frozen?_of_block (w := w) (a := ⟨O, j, none⟩) (Below.heap_alloc _ _ _ lO))
  exact ⟨((h.o0.alloc _).kept gb (.inr (fun e => e0 (Option.some.inj e)))).kept (gbs w2 _ _) (.inr (fun e => e1 (Option.some.inj e))), own.kept (gbs w2 _ _) (.inr (fun e => hg.2 (Option.some.inj e))), fun e => hg.1 e.symm, e1, hg.2, by simp [World.setCell]; omega,
    (World.cell?_setCell_other w2 _ _ _ (by simp)).trans ((hc 0).trans h.b0), World.cell?_setCell_same w2 _ _ ((hc 1).trans h.b1), by simpa using (hf 0).trans h.f0, by simpa using (hf 1).trans h.f1⟩
/-- the fields, behind an append to one of the rows -/
theorem Two.cells {w w2 : World} {B O g0 c0 m0 : Nat} {ls : List Int} {g1 c1 m1 : Nat} {vs : List Int} {o : Obj} {r : Nat} (h : Two w B O g0 c0 m0 ls g1 c1 m1 vs) (gb : (w.alloc o).grownBy w2 (some r)) (hr : r ≠ O) :
    w2.cell? ⟨O, 0, none⟩ = some (.slice (some ⟨g0, 0, none⟩) m0 c0) ∧ w2.cell? ⟨O, 1, none⟩ = some (.slice (some ⟨g1, 0, none⟩) m1 c1) ∧ w2.frozen? ⟨O, 0, none⟩ = false ∧ w2.frozen? ⟨O, 1, none⟩ = false := by
  have lO := h.lt
  have hc : ∀ j, w2.cell? ⟨O, j, none⟩ = w.cell? ⟨O, j, none⟩ := fun j => (gb.cell_far ⟨O, j, none⟩ (by simp; omega) (fun e => hr (Option.some.inj e).symm)).trans (World.cell?_of_block (w := w) (a := ⟨O, j, none⟩) (Below.heap_alloc _ _ _ lO))
  have hf : ∀ j, w2.frozen? ⟨O, j, none⟩ = w.frozen? ⟨O, j, none⟩ := fun j => (gb.frozen_far ⟨O, j, none⟩ (by simp; omega) (fun e => hr (Option.some.inj e).symm)).trans (World.frozen?_of_block (w := w) (a := ⟨O, j, none⟩) (Below.heap_alloc _ _ _ lO))
  exact ⟨(hc 0).trans h.b0, (hc 1).trans h.b1, (hf 0).trans h.f0, (hf 1).trans h.f1⟩
/-- what lies below B stays -/
theorem below_app {W w w2 : World} {B : Nat} {o : Obj} {row : Nat} {a : Addr} {u : Value} (hb : Below B W w) (hB : B ≤ w.heap.size) (gb : (w.alloc o).grownBy w2 (some row)) (hr : B ≤ row) (ha : B ≤ a.block) : Below B W (w2.setCell a u) :=
  ((hb.alloc hB o).grown gb (by simp; omega) (fun k hk => by injection hk with hk; omega)).setCell ha _
/-- two new empty rows in a new box of two -/
theorem two_new (w1 : World) : Two (((w1.alloc (.cells #[] 2)).alloc (.cells #[] 2)).alloc (.cells #[.slice (some ⟨w1.heap.size, 0, none⟩) 0 0, .slice (some ⟨w1.heap.size + 1, 0, none⟩) 0 0] 56)) w1.heap.size (w1.heap.size + 1 + 1) w1.heap.size 0 0 [] (w1.heap.size + 1) 0 0 [] := by
  have hn := heap_alloc_new ((w1.alloc (.cells #[] 2)).alloc (.cells #[] 2)) (.cells #[.slice (some ⟨w1.heap.size, 0, none⟩) 0 0, .slice (some ⟨w1.heap.size + 1, 0, none⟩) 0 0] 56)
  rw [show ((w1.alloc (.cells #[] 2)).alloc (.cells #[] 2)).heap.size = w1.heap.size + 1 + 1 by simp] at hn
  exact ⟨((owns_made (W := w1) rfl (Nat.le_refl _)).alloc _).alloc _, (owns_made (W := w1.alloc (.cells #[] 2)) (k := w1.heap.size + 1) (by simp) (by omega)).alloc _, by omega, by omega, by omega, by simp,
    by rw [cell_of_row _ _ _ _ _ _ hn]; rfl, by rw [cell_of_row _ _ _ _ _ _ hn]; rfl, frozen_of_row hn _, frozen_of_row hn _⟩
theorem two_below (w1 : World) (a b c : Obj) : Below w1.heap.size w1 (((w1.alloc a).alloc b).alloc c) := (((Below.refl _ _).alloc (Nat.le_refl _) _).alloc (by simp) _).alloc (by simp; omega) _

end Go.Proofs.Ytcimigaimlojlaa
