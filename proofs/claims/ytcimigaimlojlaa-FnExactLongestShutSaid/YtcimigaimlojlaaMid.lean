/- Ranges over a function: what a body keeps that writes into boxes of its own, from block lo on, below hi. -/
import Derived.Test.YtcimigaimlojlaaIter
namespace Go.Proofs.Ytcimigaimlojlaa
open Go.RowKit Go.Shelf

/-- whatever lay below B lies as it lay, blocks from lo on below hi apart -/
structure Mid (lo hi B : Nat) (w w' : World) : Prop where
  os : w'.os = w.os
  tape : w'.tape = w.tape
  output : w'.output = w.output
  size : w.heap.size ≤ w'.heap.size
  block : ∀ k, k < B → (k < lo ∨ hi ≤ k) → w'.heap[k]? = w.heap[k]?
theorem Mid.refl (lo hi B : Nat) (w : World) : Mid lo hi B w w := ⟨rfl, rfl, rfl, Nat.le_refl _, fun _ _ _ => rfl⟩
theorem Mid.trans {lo hi B : Nat} {a b c : World} (h : Mid lo hi B a b) (k : Mid lo hi B b c) : Mid lo hi B a c :=
  ⟨k.os.trans h.os, k.tape.trans h.tape, k.output.trans h.output, Nat.le_trans h.size k.size, fun i hi' he => (k.block i hi' he).trans (h.block i hi' he)⟩
theorem Mid.of_below {lo hi B : Nat} {a b : World} (h : Below B a b) : Mid lo hi B a b := ⟨h.os, h.tape, h.output, h.size, fun i hi' _ => h.block i hi'⟩
theorem Mid.of_grown {lo hi B : Nat} {a b : World} {r : Option Nat} (h : a.grownBy b r) (hB : B ≤ a.heap.size) (hr : ∀ k, r = some k → (lo ≤ k ∧ k < hi) ∨ B ≤ k) : Mid lo hi B a b :=
  ⟨h.os, h.tape, h.output, h.size, fun i hi' he => h.block i (by omega) (fun e => by have := hr i e.symm; omega)⟩
theorem Mid.setCell {lo hi B : Nat} {a w : World} (h : Mid lo hi B a w) {p : Addr} (hp : (lo ≤ p.block ∧ p.block < hi) ∨ B ≤ p.block) (u : Value) : Mid lo hi B a (w.setCell p u) :=
  h.trans ⟨rfl, rfl, rfl, by simp [World.setCell], fun k hk he => Below.heap_setCell _ _ _ _ (by omega)⟩
theorem Mid.cell {lo hi B : Nat} {w w' : World} (h : Mid lo hi B w w') {b o : Nat} (hb : b < B) (he : b < lo ∨ hi ≤ b) : w'.cell? ⟨b, o, none⟩ = w.cell? ⟨b, o, none⟩ := World.cell?_of_block (w := w) (a := ⟨b, o, none⟩) (h.block b hb he)
theorem Mid.undrew {lo hi B : Nat} {w w' : World} (h : Mid lo hi B w.drew w') : Mid lo hi B w w' := ⟨h.os, h.tape, h.output, h.size, h.block⟩
theorem Mid.low {lo hi B : Nat} {w w' : World} (h : Mid lo hi B w w') (hl : lo ≤ B) : Below lo w w' := ⟨h.os, h.tape, h.output, h.size, fun k hk => h.block k (by omega) (.inl hk)⟩
theorem midK_b {lo hi B : Nat} {w : World} (hn : B ≤ w.heap.size) (W : World) (l : Nat) (o o' : Obj) (hl : w.heap.size ≤ l) (_h : W.heap[l]? = some o) (_ : o.isCells = false) (_ : o.isWalk = false) : Mid lo hi B W (W.putObj l o') :=
  let g := grownBy_putObj' W l o'
  ⟨g.os, g.tape, g.output, g.size, fun k hk _ => World.putObj_heap_other (by omega)⟩
abbrev HIx (m : Nat) := { i : Nat // i < m }
def vals {m : Nat} (pre : List (HIx m)) : List Nat := pre.map Subtype.val
theorem vals_snoc {m : Nat} (pre : List (HIx m)) (x : HIx m) : vals (pre ++ [x]) = vals pre ++ [x.1] := by simp [vals]
theorem vals_len {m : Nat} (pre : List (HIx m)) : (vals pre).length = pre.length := by simp [vals]
/-- an hour lies in a box of its own -/
structure Hr2 (n₀ Bx : Nat) (x y : Int) (W : World) : Prop where
  lo : n₀ ≤ Bx
  lt : Bx < W.heap.size
  c0 : W.cell? ⟨Bx, 0, none⟩ = some (.int .i64 x)
  c1 : W.cell? ⟨Bx, 1, none⟩ = some (.int .i64 y)
theorem Hr2.own {n₀ Bx : Nat} {x y : Int} {W W' : World} {row : Option Nat} (h : Hr2 n₀ Bx x y W) (hg : W.grownBy W' row) (hr : ∀ r, row = some r → ∃ o : Obj, W.heap[r]? = some o ∧ o.isCells = false) : Hr2 n₀ Bx x y W' :=
  ⟨h.lo, Nat.lt_of_lt_of_le h.lt hg.size, cell_kept h.c0 hg hr, cell_kept h.c1 hg hr⟩
theorem Hr2.below {n₀ Bx : Nat} {x y : Int} {W W' : World} (h : Hr2 n₀ Bx x y W) (hb : Below W.heap.size W W') : Hr2 n₀ Bx x y W' :=
  ⟨h.lo, Nat.lt_of_lt_of_le h.lt hb.size, (hb.cell (p := ⟨Bx, 0, none⟩) h.lt).trans h.c0, (hb.cell (p := ⟨Bx, 1, none⟩) h.lt).trans h.c1⟩
theorem keepsOthers_below {w w' : World} (h : Below w.heap.size w w') : KeepsOthers w w' := KeepsOthers.of_grownBy (row := none) ⟨h.os, h.tape, h.output, h.size, fun k hk _ => h.block k hk⟩ (fun j o e _ => by cases e)

end Go.Proofs.Ytcimigaimlojlaa
