/- A world with one block laid or filled: what it keeps; for regions in which a new block may be laid at any time. -/
import Derived.Test.YtfpfmfhhcgafcaaRec
namespace Go.Proofs.Ytfpfmfhhcgafcaa
open Go.RowKit

/-- X is V, but for the cells of block g, which are vs -/
structure Out (V X : World) (g : Nat) (vs : List Value) : Prop where
  os : X.os = V.os
  tape : X.tape = V.tape
  output : X.output = V.output
  size : V.heap.size ≤ X.heap.size
  lt : g < X.heap.size
  block : ∀ k, k < V.heap.size → k ≠ g → X.heap[k]? = V.heap[k]?
  cells : ∀ j, j < vs.length → X.cell? ⟨g, j, none⟩ = vs[j]?
theorem Out.put (V : World) (g : Nat) (vs : List Value) (hg : g < V.heap.size) (hc : ∀ i, i < vs.length → ∃ u, V.cell? ⟨g, i, none⟩ = some u) : Out V (putC V g 0 vs) g vs := by
  have h := putC_gb vs V g 0
  refine ⟨h.os, h.tape, h.output, h.size, by rw [putC_size]; exact hg, fun k hk hne => h.block k hk (fun e => hne (by injection e)), fun j hj => ?_⟩
  have := putC_at vs V g 0 j hj (fun i hi => by obtain ⟨u, hu⟩ := hc i hi; exact ⟨u, by rw [Nat.zero_add]; exact hu⟩)
  rwa [Nat.zero_add] at this
theorem Out.new (V : World) (vs : List Value) (T : TypeId) : Out V (V.alloc (.cells vs.toArray T)) V.heap.size vs := by
  refine ⟨rfl, rfl, rfl, by simp, by simp, fun k hk _ => Below.heap_alloc _ _ _ hk, fun j hj => ?_⟩
  have h : (V.alloc (.cells vs.toArray T)).heap[V.heap.size]? = some (.cells vs.toArray T) := heap_alloc_new V _
  rw [cell_of_row _ _ _ _ _ _ h, List.getElem?_toArray]
theorem Out.below {V X : World} {g : Nat} {vs : List Value} (h : Out V X g vs) {B : Nat} (h1 : B ≤ g) (h2 : B ≤ V.heap.size) : Below B V X :=
  ⟨h.os, h.tape, h.output, h.size, fun k hk => h.block k (by omega) (by omega)⟩
theorem Out.chg {V X : World} {g : Nat} {vs : List Value} (h : Out V X g vs) : Chg g (g + 1) V X :=
  ⟨h.os, h.tape, h.output, h.size, fun k hk hd => h.block k hk (by omega)⟩
theorem Out.other {V X : World} {g : Nat} {vs : List Value} (h : Out V X g vs) {b : Nat} (o : Nat) (hb : b < V.heap.size) (hne : b ≠ g) : X.cell? ⟨b, o, none⟩ = V.cell? ⟨b, o, none⟩ := World.cell?_of_block (w := V) (a := ⟨b, o, none⟩) (h.block b hb hne)
theorem Out.at {V X : World} {g : Nat} {vs : List Value} (h : Out V X g vs) (j : Nat) {u : Value} (hu : vs[j]? = some u) : X.cell? ⟨g, j, none⟩ = some u := (h.cells j (by have := (List.getElem?_eq_some_iff.1 hu).1; exact this)).trans hu
theorem keep1 {V : World} {g i b o : Nat} {v u : Value} (h : V.cell? ⟨b, o, none⟩ = some u) (hne : b ≠ g) : (V.setCell ⟨g, i, none⟩ v).cell? ⟨b, o, none⟩ = some u := by
  rw [World.cell?_setCell_other V _ _ _ (fun e => hne (by injection e with e; exact e.symm))]
  exact h
theorem keepA {V : World} {b o : Nat} {u : Value} {ob : Obj} (h : V.cell? ⟨b, o, none⟩ = some u) : (V.alloc ob).cell? ⟨b, o, none⟩ = some u := by
  rw [World.cell?_alloc_lt _ _ _ (World.block_lt_of_cell? _ _ h)]
  exact h
theorem keepD {V : World} {a : Addr} {u : Value} (h : V.cell? a = some u) : V.drew.cell? a = some u := h

end Go.Proofs.Ytfpfmfhhcgafcaa
