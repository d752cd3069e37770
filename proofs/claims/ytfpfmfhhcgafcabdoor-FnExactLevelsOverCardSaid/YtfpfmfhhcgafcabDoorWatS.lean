/- Days: the sums of the amounts, the volumes after each day: of the model and of the program. -/
import Derived.Test.YtfpfmfhhcgafcabDoorWatL
import Derived.Test.YtfpfmfhhcgafcabDoorOwnS
import Derived.Test.YtfpfmfhhcgafcabDoorOpen
import Derived.BigQuiet
namespace Go.Proofs.YtfpfmfhhcgafcabDoor
open Go.RowKit

theorem AtWater.below {B b o : Nat} {w w' : World} {x : RWater} (h : AtWater w b o x) (hb : Below B w w') (hB : b < B) : AtWater w' b o x :=
  ⟨(hb.cell (p := ⟨b, o, none⟩) hB).trans h.1, (hb.cell (p := ⟨b, o + 1, none⟩) hB).trans h.2.1, (hb.cell (p := ⟨b, o + 2, none⟩) hB).trans h.2.2.1, (hb.cell (p := ⟨b, o + 3, none⟩) hB).trans h.2.2.2.1, (hb.cell (p := ⟨b, o + 4, none⟩) hB).trans h.2.2.2.2⟩
theorem sumW_succ (xs : List RWater) (k : Nat) {x0 x1 x2 x3 x4 s0 s1 s2 s3 s4 : Int} (hx : ⟨x0, x1, x2, x3, x4⟩ = xs.getD k zWater) (hs : ⟨s0, s1, s2, s3, s4⟩ = sumW xs k) : (⟨s0 + x0, s1 + x1, s2 + x2, s3 + x3, s4 + x4⟩ : RWater) = sumW xs (k + 1) := by
  unfold sumW
  simp only [amtW, ← hx]
  unfold sumW at hs
  injection hs with h0 h1 h2 h3 h4
  rw [h0, h1, h2, h3, h4]
theorem cell5 {W : World} {B i : Nat} (j : Nat) {o : Value} (v : Value) (h : W.cell? ⟨B, i, none⟩ = some o) : (W.setCell ⟨B, j, none⟩ v).drew.cell? ⟨B, i, none⟩ = some (if i = j then v else o) := by
  show (W.setCell ⟨B, j, none⟩ v).cell? ⟨B, i, none⟩ = _
  by_cases e : i = j
  · subst e; rw [if_pos rfl]; exact World.cell?_setCell_same W _ _ h
  · rw [if_neg e, World.cell?_setCell_other W _ _ _ (fun g => by injection g with _ g2; omega)]; exact h
theorem cell6 {W : World} {B C i : Nat} (j : Nat) {o : Value} (v : Value) (hn : B ≠ C) (h : W.cell? ⟨C, i, none⟩ = some o) : (W.setCell ⟨B, j, none⟩ v).drew.cell? ⟨C, i, none⟩ = some o := by
  show (W.setCell ⟨B, j, none⟩ v).cell? ⟨C, i, none⟩ = _
  rw [World.cell?_setCell_other W _ _ _ (fun g => by injection g with g1; omega)]; exact h
/-- the sum's box behind the result's box -/
structure Box5 (w wr : World) (s0 s1 s2 s3 s4 : Int) : Prop where
  hb : Below w.heap.size w wr
  hz : w.heap.size + 1 < wr.heap.size
  c0 : wr.cell? ⟨w.heap.size + 1, 0, none⟩ = some (.int .i64 s0)
  f0 : wr.frozen? ⟨w.heap.size + 1, 0, none⟩ = false
  r0 : wr.cell? ⟨w.heap.size, 0, none⟩ = some (.int .i64 0)
  g0 : wr.frozen? ⟨w.heap.size, 0, none⟩ = false
  c1 : wr.cell? ⟨w.heap.size + 1, 1, none⟩ = some (.int .i64 s1)
  f1 : wr.frozen? ⟨w.heap.size + 1, 1, none⟩ = false
  r1 : wr.cell? ⟨w.heap.size, 1, none⟩ = some (.int .i64 0)
  g1 : wr.frozen? ⟨w.heap.size, 1, none⟩ = false
  c2 : wr.cell? ⟨w.heap.size + 1, 2, none⟩ = some (.int .i64 s2)
  f2 : wr.frozen? ⟨w.heap.size + 1, 2, none⟩ = false
  r2 : wr.cell? ⟨w.heap.size, 2, none⟩ = some (.int .i64 0)
  g2 : wr.frozen? ⟨w.heap.size, 2, none⟩ = false
  c3 : wr.cell? ⟨w.heap.size + 1, 3, none⟩ = some (.int .i64 s3)
  f3 : wr.frozen? ⟨w.heap.size + 1, 3, none⟩ = false
  r3 : wr.cell? ⟨w.heap.size, 3, none⟩ = some (.int .i64 0)
  g3 : wr.frozen? ⟨w.heap.size, 3, none⟩ = false
  c4 : wr.cell? ⟨w.heap.size + 1, 4, none⟩ = some (.int .i64 s4)
  f4 : wr.frozen? ⟨w.heap.size + 1, 4, none⟩ = false
  r4 : wr.cell? ⟨w.heap.size, 4, none⟩ = some (.int .i64 0)
  g4 : wr.frozen? ⟨w.heap.size, 4, none⟩ = false
theorem Box5.put0 {w wr : World} {s0 s1 s2 s3 s4 : Int} (h : Box5 w wr s0 s1 s2 s3 s4) (v : Int) : Box5 w (wr.setCell ⟨w.heap.size + 1, 0, none⟩ (.int .i64 v)).drew v s1 s2 s3 s4 where
  hb := (h.hb.setCell (by show w.heap.size ≤ w.heap.size + 1; omega) _).drew
  hz := by have := h.hz; simpa [World.setCell] using this
  c0 := by simpa using cell5 (i := 0) 0 (.int .i64 v) h.c0
  f0 := by simpa using h.f0
  r0 := cell6 0 _ (by omega) h.r0
  g0 := by simpa using h.g0
  c1 := by simpa using cell5 (i := 1) 0 (.int .i64 v) h.c1
  f1 := by simpa using h.f1
  r1 := cell6 0 _ (by omega) h.r1
  g1 := by simpa using h.g1
  c2 := by simpa using cell5 (i := 2) 0 (.int .i64 v) h.c2
  f2 := by simpa using h.f2
  r2 := cell6 0 _ (by omega) h.r2
  g2 := by simpa using h.g2
  c3 := by simpa using cell5 (i := 3) 0 (.int .i64 v) h.c3
  f3 := by simpa using h.f3
  r3 := cell6 0 _ (by omega) h.r3
  g3 := by simpa using h.g3
  c4 := by simpa using cell5 (i := 4) 0 (.int .i64 v) h.c4
  f4 := by simpa using h.f4
  r4 := cell6 0 _ (by omega) h.r4
  g4 := by simpa using h.g4
theorem Box5.put1 {w wr : World} {s0 s1 s2 s3 s4 : Int} (h : Box5 w wr s0 s1 s2 s3 s4) (v : Int) : Box5 w (wr.setCell ⟨w.heap.size + 1, 1, none⟩ (.int .i64 v)).drew s0 v s2 s3 s4 where
  hb := (h.hb.setCell (by show w.heap.size ≤ w.heap.size + 1; omega) _).drew
  hz := by have := h.hz; simpa [World.setCell] using this
  c0 := by simpa using cell5 (i := 0) 1 (.int .i64 v) h.c0
  f0 := by simpa using h.f0
  r0 := cell6 1 _ (by omega) h.r0
  g0 := by simpa using h.g0
  c1 := by simpa using cell5 (i := 1) 1 (.int .i64 v) h.c1
  f1 := by simpa using h.f1
  r1 := cell6 1 _ (by omega) h.r1
  g1 := by simpa using h.g1
  c2 := by simpa using cell5 (i := 2) 1 (.int .i64 v) h.c2
  f2 := by simpa using h.f2
  r2 := cell6 1 _ (by omega) h.r2
  g2 := by simpa using h.g2
  c3 := by simpa using cell5 (i := 3) 1 (.int .i64 v) h.c3
  f3 := by simpa using h.f3
  r3 := cell6 1 _ (by omega) h.r3
  g3 := by simpa using h.g3
  c4 := by simpa using cell5 (i := 4) 1 (.int .i64 v) h.c4
  f4 := by simpa using h.f4
  r4 := cell6 1 _ (by omega) h.r4
  g4 := by simpa using h.g4
theorem Box5.put2 {w wr : World} {s0 s1 s2 s3 s4 : Int} (h : Box5 w wr s0 s1 s2 s3 s4) (v : Int) : Box5 w (wr.setCell ⟨w.heap.size + 1, 2, none⟩ (.int .i64 v)).drew s0 s1 v s3 s4 where
  hb := (h.hb.setCell (by show w.heap.size ≤ w.heap.size + 1; omega) _).drew
  hz := by have := h.hz; simpa [World.setCell] using this
  c0 := by simpa using cell5 (i := 0) 2 (.int .i64 v) h.c0
  f0 := by simpa using h.f0
  r0 := cell6 2 _ (by omega) h.r0
  g0 := by simpa using h.g0
  c1 := by simpa using cell5 (i := 1) 2 (.int .i64 v) h.c1
  f1 := by simpa using h.f1
  r1 := cell6 2 _ (by omega) h.r1
  g1 := by simpa using h.g1
  c2 := by simpa using cell5 (i := 2) 2 (.int .i64 v) h.c2
  f2 := by simpa using h.f2
  r2 := cell6 2 _ (by omega) h.r2
  g2 := by simpa using h.g2
  c3 := by simpa using cell5 (i := 3) 2 (.int .i64 v) h.c3
  f3 := by simpa using h.f3
  r3 := cell6 2 _ (by omega) h.r3
  g3 := by simpa using h.g3
  c4 := by simpa using cell5 (i := 4) 2 (.int .i64 v) h.c4
  f4 := by simpa using h.f4
  r4 := cell6 2 _ (by omega) h.r4
  g4 := by simpa using h.g4
theorem Box5.put3 {w wr : World} {s0 s1 s2 s3 s4 : Int} (h : Box5 w wr s0 s1 s2 s3 s4) (v : Int) : Box5 w (wr.setCell ⟨w.heap.size + 1, 3, none⟩ (.int .i64 v)).drew s0 s1 s2 v s4 where
  hb := (h.hb.setCell (by show w.heap.size ≤ w.heap.size + 1; omega) _).drew
  hz := by have := h.hz; simpa [World.setCell] using this
  c0 := by simpa using cell5 (i := 0) 3 (.int .i64 v) h.c0
  f0 := by simpa using h.f0
  r0 := cell6 3 _ (by omega) h.r0
  g0 := by simpa using h.g0
  c1 := by simpa using cell5 (i := 1) 3 (.int .i64 v) h.c1
  f1 := by simpa using h.f1
  r1 := cell6 3 _ (by omega) h.r1
  g1 := by simpa using h.g1
  c2 := by simpa using cell5 (i := 2) 3 (.int .i64 v) h.c2
  f2 := by simpa using h.f2
  r2 := cell6 3 _ (by omega) h.r2
  g2 := by simpa using h.g2
  c3 := by simpa using cell5 (i := 3) 3 (.int .i64 v) h.c3
  f3 := by simpa using h.f3
  r3 := cell6 3 _ (by omega) h.r3
  g3 := by simpa using h.g3
  c4 := by simpa using cell5 (i := 4) 3 (.int .i64 v) h.c4
  f4 := by simpa using h.f4
  r4 := cell6 3 _ (by omega) h.r4
  g4 := by simpa using h.g4
theorem Box5.put4 {w wr : World} {s0 s1 s2 s3 s4 : Int} (h : Box5 w wr s0 s1 s2 s3 s4) (v : Int) : Box5 w (wr.setCell ⟨w.heap.size + 1, 4, none⟩ (.int .i64 v)).drew s0 s1 s2 s3 v where
  hb := (h.hb.setCell (by show w.heap.size ≤ w.heap.size + 1; omega) _).drew
  hz := by have := h.hz; simpa [World.setCell] using this
  c0 := by simpa using cell5 (i := 0) 4 (.int .i64 v) h.c0
  f0 := by simpa using h.f0
  r0 := cell6 4 _ (by omega) h.r0
  g0 := by simpa using h.g0
  c1 := by simpa using cell5 (i := 1) 4 (.int .i64 v) h.c1
  f1 := by simpa using h.f1
  r1 := cell6 4 _ (by omega) h.r1
  g1 := by simpa using h.g1
  c2 := by simpa using cell5 (i := 2) 4 (.int .i64 v) h.c2
  f2 := by simpa using h.f2
  r2 := cell6 4 _ (by omega) h.r2
  g2 := by simpa using h.g2
  c3 := by simpa using cell5 (i := 3) 4 (.int .i64 v) h.c3
  f3 := by simpa using h.f3
  r3 := cell6 4 _ (by omega) h.r3
  g3 := by simpa using h.g3
  c4 := by simpa using cell5 (i := 4) 4 (.int .i64 v) h.c4
  f4 := by simpa using h.f4
  r4 := cell6 4 _ (by omega) h.r4
  g4 := by simpa using h.g4
end Go.Proofs.YtfpfmfhhcgafcabDoor
