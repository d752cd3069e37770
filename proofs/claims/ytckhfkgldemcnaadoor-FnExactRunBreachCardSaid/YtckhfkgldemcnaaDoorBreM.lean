/- Breaches: the model's boxes, hour by hour. -/
import Derived.Test.YtckhfkgldemcnaaDoorBreX
namespace Go.Proofs.YtckhfkgldemcnaaDoor
open Go.RowKit

/-- a curve's box q, a breach's box r; below lo nothing has changed -/
structure MB (w W : World) (lo q r : Nat) (A0 : Option Addr) (n0 k0 : Nat) (A1 : Option Addr) (n1 k1 : Nat) (a b c : Int) : Prop where
  D : Below lo w W
  lq : q < W.heap.size
  lr : r < W.heap.size
  nq : q ≠ r
  lor : lo ≤ r
  cc : CurveAt W q A0 n0 k0 A1 n1 k1
  x : W.cell? ⟨r, 0, none⟩ = some (.int .i64 a) ∧ W.cell? ⟨r, 1, none⟩ = some (.int .i64 b) ∧ W.cell? ⟨r, 2, none⟩ = some (.int .i64 c)
  f : W.frozen? ⟨r, 0, none⟩ = false ∧ W.frozen? ⟨r, 1, none⟩ = false ∧ W.frozen? ⟨r, 2, none⟩ = false
theorem MB.below {w W V : World} {lo q r : Nat} {A0 : Option Addr} {n0 k0 : Nat} {A1 : Option Addr} {n1 k1 : Nat} {a b c : Int} (m : MB w W lo q r A0 n0 k0 A1 n1 k1 a b c) (hb : Below W.heap.size W V) (hlo : lo ≤ W.heap.size) : MB w V lo q r A0 n0 k0 A1 n1 k1 a b c := by
  obtain ⟨D, lq, lr, nq, lor, cc, ⟨x0, x1, x2⟩, f0, f1, f2⟩ := m
  have c := fun (o : Nat) => hb.cell (p := ⟨r, o, none⟩) lr
  have f := fun (o : Nat) => hb.frozen (p := ⟨r, o, none⟩) lr
  exact ⟨D.trans (hb.mono hlo), Nat.lt_of_lt_of_le lq hb.size, Nat.lt_of_lt_of_le lr hb.size, nq, lor, cc.below hb lq, ⟨(c 0).trans x0, (c 1).trans x1, (c 2).trans x2⟩, (f 0).trans f0, (f 1).trans f1, (f 2).trans f2⟩
theorem MB.belowD {w W V : World} {lo q r : Nat} {A0 : Option Addr} {n0 k0 : Nat} {A1 : Option Addr} {n1 k1 : Nat} {a b c : Int} (m : MB w W lo q r A0 n0 k0 A1 n1 k1 a b c) (hb : Below W.drew.heap.size W.drew V) (hlo : lo ≤ W.heap.size) : MB w V lo q r A0 n0 k0 A1 n1 k1 a b c := m.below ⟨hb.os, hb.tape, hb.output, hb.size, hb.block⟩ hlo
theorem MB.set {w W : World} {lo q r : Nat} {A0 : Option Addr} {n0 k0 : Nat} {A1 : Option Addr} {n1 k1 : Nat} {a b c : Int} (m : MB w W lo q r A0 n0 k0 A1 n1 k1 a b c) (a2 b2 c2 : Int) : MB w (((W.setCell ⟨r, 0, none⟩ (.int .i64 a2)).setCell ⟨r, 1, none⟩ (.int .i64 b2)).setCell ⟨r, 2, none⟩ (.int .i64 c2)) lo q r A0 n0 k0 A1 n1 k1 a2 b2 c2 := by
  obtain ⟨D, lq, lr, nq, lor, ⟨y0, y1⟩, ⟨x0, x1, x2⟩, f0, f1, f2⟩ := m
  have n : ∀ (i j : Nat), (⟨r, i, none⟩ : Addr) ≠ ⟨q, j, none⟩ := fun i j e => nq (by injection e with e1 _; exact e1.symm)
  have y0' := (World.cell?_setCell_other (((W.setCell ⟨r, 0, none⟩ (.int .i64 a2)).setCell ⟨r, 1, none⟩ (.int .i64 b2))) ⟨r, 2, none⟩ ⟨q, 0, none⟩ (.int .i64 c2) (n 2 0)).trans ((World.cell?_setCell_other (W.setCell ⟨r, 0, none⟩ (.int .i64 a2)) ⟨r, 1, none⟩ ⟨q, 0, none⟩ (.int .i64 b2) (n 1 0)).trans ((World.cell?_setCell_other W ⟨r, 0, none⟩ ⟨q, 0, none⟩ (.int .i64 a2) (n 0 0)).trans y0))
  have y1' := (World.cell?_setCell_other (((W.setCell ⟨r, 0, none⟩ (.int .i64 a2)).setCell ⟨r, 1, none⟩ (.int .i64 b2))) ⟨r, 2, none⟩ ⟨q, 1, none⟩ (.int .i64 c2) (n 2 1)).trans ((World.cell?_setCell_other (W.setCell ⟨r, 0, none⟩ (.int .i64 a2)) ⟨r, 1, none⟩ ⟨q, 1, none⟩ (.int .i64 b2) (n 1 1)).trans ((World.cell?_setCell_other W ⟨r, 0, none⟩ ⟨q, 1, none⟩ (.int .i64 a2) (n 0 1)).trans y1))
  exact ⟨((D.setCell (p := ⟨r, 0, none⟩) lor _).setCell (p := ⟨r, 1, none⟩) lor _).setCell (p := ⟨r, 2, none⟩) lor _, by simpa [World.setCell] using lq, by simpa [World.setCell] using lr, nq, lor, ⟨y0', y1'⟩, three_back x0 x1 x2, by simpa using f0, by simpa using f1, by simpa using f2⟩

theorem f_at {n : Nat} {p : Nat → Bool} {k : Nat} (hk : k ≤ n) (h : ∀ j, j < k → p j = false) (hp : p k = true) : fstN p (n + 1) = k := fstN_eq (by omega) h hp
theorem f_no {n : Nat} {p : Nat → Bool} (h : ∀ j, j ≤ n → p j = false) : fstN p (n + 1) = n + 1 := fstN_no (fun j hj => h j (by omega))
theorem ret_pair {a b c d : Int} (h1 : a = c) (h2 : b = d) : Ending.returned (.tuple #[.int .i64 a, .int .i64 b]) = .returned (.tuple #[.int .i64 c, .int .i64 d]) := by rw [h1, h2]
/-- levels outside and stones of all hours -/
theorem hrs_ok {ys : List Int} {s : Int} (h : stepsOk ys) (hs : stoOk s) : HrsOk ys (fun _ => s) := fun k hk => ⟨h.1 k hk, hs⟩

end Go.Proofs.YtckhfkgldemcnaaDoor
