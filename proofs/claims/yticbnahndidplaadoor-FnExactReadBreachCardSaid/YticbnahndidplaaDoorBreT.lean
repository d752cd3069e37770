/- Breaches: an hour, of the model. -/
import Derived.Test.YticbnahndidplaaDoorBreS
namespace Go.Proofs.YticbnahndidplaaDoor
open Go.RowKit

theorem three_back {w : World} {r : Nat} {v0 v1 v2 o0 o1 o2 : Value} (h0 : w.cell? ⟨r, 0, none⟩ = some o0) (h1 : w.cell? ⟨r, 1, none⟩ = some o1) (h2 : w.cell? ⟨r, 2, none⟩ = some o2) :
    (((w.setCell ⟨r, 0, none⟩ v0).setCell ⟨r, 1, none⟩ v1).setCell ⟨r, 2, none⟩ v2).cell? ⟨r, 0, none⟩ = some v0 ∧ (((w.setCell ⟨r, 0, none⟩ v0).setCell ⟨r, 1, none⟩ v1).setCell ⟨r, 2, none⟩ v2).cell? ⟨r, 1, none⟩ = some v1 ∧ (((w.setCell ⟨r, 0, none⟩ v0).setCell ⟨r, 1, none⟩ v1).setCell ⟨r, 2, none⟩ v2).cell? ⟨r, 2, none⟩ = some v2 := by
  have n : ∀ {i j : Nat}, i ≠ j → (⟨r, i, none⟩ : Addr) ≠ ⟨r, j, none⟩ := fun h e => h (by injection e)
  refine ⟨?_, ?_, ?_⟩
  · rw [World.cell?_setCell_other _ _ _ _ (n (by omega)), World.cell?_setCell_other _ _ _ _ (n (by omega))]
    exact World.cell?_setCell_same _ _ _ h0
  · rw [World.cell?_setCell_other _ _ _ _ (n (by omega))]
    exact World.cell?_setCell_same _ _ _ ((World.cell?_setCell_other _ _ _ _ (n (by omega))).trans h1)
  · exact World.cell?_setCell_same _ _ _ (((World.cell?_setCell_other _ _ _ _ (n (by omega))).trans ((World.cell?_setCell_other _ _ _ _ (n (by omega))).trans h2)))
/-- the state of the model's hour: the breach, the result's cell, the new breach (block g), the curve (block q) -/
structure StT (w X : World) (g q : Nat) (a b c ow c2 : Int) (u v : Value) : Prop where
  D : Below w.heap.size w X
  sz : g < X.heap.size
  gl : w.heap.size + 1 < g
  ql : q < w.heap.size
  cells : X.cell? ⟨w.heap.size, 0, none⟩ = some (.int .i64 a) ∧ X.cell? ⟨w.heap.size, 1, none⟩ = some (.int .i64 b) ∧ X.cell? ⟨w.heap.size, 2, none⟩ = some (.int .i64 c) ∧ X.cell? ⟨w.heap.size + 1, 0, none⟩ = some (.int .i64 0) ∧ X.cell? ⟨w.heap.size + 1, 1, none⟩ = some (.int .i64 0) ∧ X.cell? ⟨w.heap.size + 1, 2, none⟩ = some (.int .i64 0) ∧ X.cell? ⟨q, 0, none⟩ = some u ∧ X.cell? ⟨q, 1, none⟩ = some v
  fz : X.frozen? ⟨w.heap.size + 1, 0, none⟩ = false ∧ X.frozen? ⟨w.heap.size + 1, 1, none⟩ = false ∧ X.frozen? ⟨w.heap.size + 1, 2, none⟩ = false
  o : X.cell? ⟨g, 0, none⟩ = some (.int .i64 ow) ∧ X.cell? ⟨g, 1, none⟩ = some (.int .i64 b) ∧ X.cell? ⟨g, 2, none⟩ = some (.int .i64 c2) ∧ X.frozen? ⟨g, 0, none⟩ = false ∧ X.frozen? ⟨g, 1, none⟩ = false ∧ X.frozen? ⟨g, 2, none⟩ = false
theorem StT.below {w X V : World} {g q : Nat} {a b c ow c2 : Int} {u v : Value} (h : StT w X g q a b c ow c2 u v) (hb : Below X.heap.size X V) : StT w V g q a b c ow c2 u v := by
  obtain ⟨D, s, hg, hq, ⟨x0, x1, x2, y0, y1, y2, q0, q1⟩, ⟨f0, f1, f2⟩, ⟨z0, z1, z2, e0, e1, e2⟩⟩ := h
  have c : ∀ (b o : Nat), b < X.heap.size → V.cell? ⟨b, o, none⟩ = X.cell? ⟨b, o, none⟩ := fun (b o : Nat) (h : b < X.heap.size) => hb.cell (p := ⟨b, o, none⟩) h
  have f : ∀ (b o : Nat), b < X.heap.size → V.frozen? ⟨b, o, none⟩ = X.frozen? ⟨b, o, none⟩ := fun (b o : Nat) (h : b < X.heap.size) => hb.frozen (p := ⟨b, o, none⟩) h
  exact ⟨D.trans (hb.mono (by omega)), Nat.lt_of_lt_of_le s hb.size, hg, hq, ⟨(c _ _ (by omega)).trans x0, (c _ _ (by omega)).trans x1, (c _ _ (by omega)).trans x2, (c _ _ (by omega)).trans y0, (c _ _ (by omega)).trans y1, (c _ _ (by omega)).trans y2, (c _ _ (by omega)).trans q0, (c _ _ (by omega)).trans q1⟩, ⟨(f _ _ (by omega)).trans f0, (f _ _ (by omega)).trans f1, (f _ _ (by omega)).trans f2⟩, ⟨(c _ _ (by omega)).trans z0, (c _ _ (by omega)).trans z1, (c _ _ (by omega)).trans z2, (f _ _ (by omega)).trans e0, (f _ _ (by omega)).trans e1, (f _ _ (by omega)).trans e2⟩⟩

theorem StT.below1 {w X V : World} {g q : Nat} {a b c ow c2 : Int} {u v : Value} (h : StT w X g q a b c ow c2 u v) (hb : Below X.drew.heap.size X.drew V) : StT w V g q a b c ow c2 u v := h.below ⟨hb.os, hb.tape, hb.output, hb.size, hb.block⟩
theorem StT.below2 {w X V : World} {g q : Nat} {a b c ow c2 : Int} {u v : Value} (h : StT w X g q a b c ow c2 u v) (hb : Below X.drew.heap.size X.drew V) : StT w V g q a b c ow c2 u v := h.below1 hb
theorem StT.set {w X : World} {g q : Nat} {a b c ow c2 : Int} {u v : Value} (h : StT w X g q a b c ow c2 u v) (n : Int) : StT w (X.setCell ⟨g, 0, none⟩ (.int .i64 n)) g q a b c n c2 u v := by
  obtain ⟨D, s, hg, hq, ⟨x0, x1, x2, y0, y1, y2, q0, q1⟩, ⟨f0, f1, f2⟩, ⟨z0, z1, z2, e0, e1, e2⟩⟩ := h
  have c : ∀ (b o : Nat) (y : Value), b ≠ g → X.cell? ⟨b, o, none⟩ = some y → (X.setCell ⟨g, 0, none⟩ (.int .i64 n)).cell? ⟨b, o, none⟩ = some y := fun b o y h e => (World.cell?_setCell_other _ _ _ _ (fun e => h (by injection e with e1 _; exact e1.symm))).trans e
  have d : ∀ (o : Nat) (y : Value), o ≠ 0 → X.cell? ⟨g, o, none⟩ = some y → (X.setCell ⟨g, 0, none⟩ (.int .i64 n)).cell? ⟨g, o, none⟩ = some y := fun o y h e => (World.cell?_setCell_other _ _ _ _ (fun e => h (by injection e with _ e2; exact e2.symm))).trans e
  exact ⟨D.setCell (p := ⟨g, 0, none⟩) (show w.heap.size ≤ g by omega) _, by simpa [World.setCell] using s, hg, hq, ⟨c _ _ _ (by omega) x0, c _ _ _ (by omega) x1, c _ _ _ (by omega) x2, c _ _ _ (by omega) y0, c _ _ _ (by omega) y1, c _ _ _ (by omega) y2, c _ _ _ (by omega) q0, c _ _ _ (by omega) q1⟩, ⟨by simpa using f0, by simpa using f1, by simpa using f2⟩, ⟨World.cell?_setCell_same _ _ _ z0, d _ _ (by omega) z1, d _ _ (by omega) z2, by simpa using e0, by simpa using e1, by simpa using e2⟩⟩


end Go.Proofs.YticbnahndidplaaDoor
