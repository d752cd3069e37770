/- Sluices: an hour, of the program: a kept sluice in a box, a deferred count. -/
import Derived.Test.YtcimigaimlojlaaSluF
import Derived.Deep.RegionHeld3
import Derived.Defers
namespace Go.Proofs.Ytcimigaimlojlaa
open Go.RowKit

/-- a kept sluice lies in block b -/
structure KeptAt (w : World) (b : Nat) (wd sl : Int) (g : RGate) : Prop where
  lt : b < w.heap.size
  c0 : w.cell? ⟨b, 0, none⟩ = some (.int .i64 wd)
  c1 : w.cell? ⟨b, 1, none⟩ = some (.int .i64 sl)
  c2 : w.cell? ⟨b, 2, none⟩ = some (.bool g.f0)
  c3 : w.cell? ⟨b, 3, none⟩ = some (.int .i64 g.f1)
  c4 : w.cell? ⟨b, 4, none⟩ = some (.int .i64 g.f2)
  n2 : w.frozen? ⟨b, 2, none⟩ = false
  n3 : w.frozen? ⟨b, 3, none⟩ = false
  n4 : w.frozen? ⟨b, 4, none⟩ = false
theorem KeptAt.below {w w' : World} {b B : Nat} {wd sl : Int} {g : RGate} (h : KeptAt w b wd sl g) (hb : Below B w w') (hB : b < B) : KeptAt w' b wd sl g :=
  ⟨Nat.lt_of_lt_of_le h.lt hb.size, (hb.cell (p := ⟨b, 0, none⟩) hB).trans h.c0, (hb.cell (p := ⟨b, 1, none⟩) hB).trans h.c1, (hb.cell (p := ⟨b, 2, none⟩) hB).trans h.c2, (hb.cell (p := ⟨b, 3, none⟩) hB).trans h.c3, (hb.cell (p := ⟨b, 4, none⟩) hB).trans h.c4,
   (hb.frozen (p := ⟨b, 2, none⟩) hB).trans h.n2, (hb.frozen (p := ⟨b, 3, none⟩) hB).trans h.n3, (hb.frozen (p := ⟨b, 4, none⟩) hB).trans h.n4⟩
theorem KeptAt.alloc {w : World} {b : Nat} {wd sl : Int} {g : RGate} (h : KeptAt w b wd sl g) (o : Obj) : KeptAt (w.alloc o) b wd sl g :=
  h.below ((Below.refl _ _).alloc (Nat.le_refl _) o) h.lt
theorem KeptAt.setOpen {w : World} {b : Nat} {wd sl : Int} {g : RGate} (h : KeptAt w b wd sl g) (v : Bool) : KeptAt (w.setCell ⟨b, 2, none⟩ (.bool v)) b wd sl ⟨v, g.f1, g.f2⟩ :=
  ⟨by simpa [World.setCell] using h.lt, (World.cell?_setCell_other _ _ _ _ (by simp)).trans h.c0, (World.cell?_setCell_other _ _ _ _ (by simp)).trans h.c1, World.cell?_setCell_same _ _ _ h.c2, (World.cell?_setCell_other _ _ _ _ (by simp)).trans h.c3, (World.cell?_setCell_other _ _ _ _ (by simp)).trans h.c4,
   by simpa using h.n2, by simpa using h.n3, by simpa using h.n4⟩
theorem KeptAt.setMoves {w : World} {b : Nat} {wd sl : Int} {g : RGate} (h : KeptAt w b wd sl g) (v : Int) : KeptAt (w.setCell ⟨b, 4, none⟩ (.int .i64 v)) b wd sl ⟨g.f0, g.f1, v⟩ :=
  ⟨by simpa [World.setCell] using h.lt, (World.cell?_setCell_other _ _ _ _ (by simp)).trans h.c0, (World.cell?_setCell_other _ _ _ _ (by simp)).trans h.c1, (World.cell?_setCell_other _ _ _ _ (by simp)).trans h.c2, (World.cell?_setCell_other _ _ _ _ (by simp)).trans h.c3, World.cell?_setCell_same _ _ _ h.c4,
   by simpa using h.n2, by simpa using h.n3, by simpa using h.n4⟩
theorem KeptAt.setPassed {w : World} {b : Nat} {wd sl : Int} {g : RGate} (h : KeptAt w b wd sl g) (v : Int) : KeptAt (w.setCell ⟨b, 3, none⟩ (.int .i64 v)) b wd sl ⟨g.f0, v, g.f2⟩ :=
  ⟨by simpa [World.setCell] using h.lt, (World.cell?_setCell_other _ _ _ _ (by simp)).trans h.c0, (World.cell?_setCell_other _ _ _ _ (by simp)).trans h.c1, (World.cell?_setCell_other _ _ _ _ (by simp)).trans h.c2, World.cell?_setCell_same _ _ _ h.c3, (World.cell?_setCell_other _ _ _ _ (by simp)).trans h.c4,
   by simpa using h.n2, by simpa using h.n3, by simpa using h.n4⟩
theorem gb_set {w w' : World} {b o : Nat} {v : Value} (h : w.grownBy w' (some b)) : w.grownBy (w'.setCell ⟨b, o, none⟩ v) (some b) := h.trans (gb_setCell w' ⟨b, o, none⟩ v)
theorem gb_alloc {w w' : World} {r : Option Nat} (h : w.grownBy w' r) (o : Obj) : w.grownBy (w'.alloc o) r := h.trans (World.grownBy_alloc w' o r)
theorem gb_below' {w w' w2 : World} {r : Option Nat} (h : w.grownBy w' r) (hb : Below w'.heap.size w' w2) : w.grownBy w2 r := h.trans ⟨hb.os, hb.tape, hb.output, hb.size, fun k hk _ => hb.block k hk⟩
theorem gb_cell {w w' : World} {b k o : Nat} (h : w.grownBy w' (some b)) (hk : k < w.heap.size) (hne : k ≠ b) : w'.cell? ⟨k, o, none⟩ = w.cell? ⟨k, o, none⟩ :=
  World.cell?_of_block (h.block k hk (fun e => hne (by injection e)))

theorem gb_frozen {w w' : World} {b k o : Nat} (h : w.grownBy w' (some b)) (hk : k < w.heap.size) (hne : k ≠ b) : w'.frozen? ⟨k, o, none⟩ = w.frozen? ⟨k, o, none⟩ :=
  World.frozen?_of_block (h.block k hk (fun e => hne (by injection e)))

theorem runs_t (i o : Int) (w : World) (v : Bool) (hv : v = decide (o < i)) :
    Calls Try.prog 71 #[.agg #[.int .i64 i, .int .i64 o]] w fun e w' => e = .returned (.bool v) ∧ w' = w.alloc (.cells #[.int .i64 i, .int .i64 o] 72) := by
  have HV := Lib.hid hv
  clear hv
  go_enter Try.func71, Try.ntmps71
  go_wp2
  go_ret
  exact ⟨ret_bool HV.out.symm, rfl⟩

set_option maxHeartbeats 800000 in
theorem cm_same (b : Nat) (wd sl : Int) (g : RGate) (u : FrameMode) (w : World) (h : KeptAt w b wd sl g) :
    CallsD Try.prog 81 #[.pointer (some ⟨b, 0, none⟩), .bool g.f0] u w fun e u' w' => u' = u ∧ (e = .returned (.tuple #[]) ∧ w' = w) := by
  have c2 := h.c2
  obtain ⟨g0, g1, g2⟩ := g
  simp only at c2 ⊢
  have e : (g0 != g0) = false := by simp
  clear h
  go_enter_d Try.func81, Try.ntmps81
  go_wp2
  go_end0
  exact ⟨rfl, rfl⟩

set_option maxHeartbeats 800000 in
theorem cm_diff (b : Nat) (wd sl : Int) (g : RGate) (was : Bool) (hw : was = !g.f0) (hm : 0 ≤ g.f2 ∧ g.f2 ≤ 1000000) (u : FrameMode) (w : World) (h : KeptAt w b wd sl g) :
    CallsD Try.prog 81 #[.pointer (some ⟨b, 0, none⟩), .bool was] u w fun e u' w' => u' = u ∧ (e = .returned (.tuple #[]) ∧ w' = w.setCell ⟨b, 4, none⟩ (.int .i64 (g.f2 + 1))) := by
  have c2 := h.c2
  have c4 := h.c4
  have n4 := h.n4
  obtain ⟨g0, g1, g2⟩ := g
  simp only at c2 c4 hw hm ⊢
  subst hw
  obtain ⟨m1, m2⟩ := hm
  have f1 := IntWalk.i64_in (g2 + 1) (by omega)
  clear h
  cases g0
  all_goals
    go_enter_d Try.func81, Try.ntmps81
    go_wp2
    go_end0
    exact ⟨rfl, rfl⟩

end Go.Proofs.Ytcimigaimlojlaa
