/- A drawn curve. -/
import Derived.Test.YthjcpgabdlfojaaDoorDraw2
namespace Go.Proofs.YthjcpgabdlfojaaDoor
open Go.RowKit

/-- a curve under way: two rows of the call's own, from block B on, apart -/
structure Rows2 (w : World) (B : Nat) (v0 v1 : Value) (i : Nat) (ls vs : List Int) : Prop where
  o0 : w.ownsRow B 2 1 v0 i (ls.map (Value.int .i64))
  o1 : w.ownsRow B 2 1 v1 i (vs.map (Value.int .i64))
  ap : ∀ g, v0.ownBlock = some g → v1.ownBlock ≠ some g
theorem Rows2.kept {w w' : World} {B : Nat} {v0 v1 : Value} {i : Nat} {ls vs : List Int} (h : Rows2 w B v0 v1 i ls vs) {r : Option Nat} (hg : w.grownBy w' r) (hr : ∀ g, r = some g → g < B) : Rows2 w' B v0 v1 i ls vs := by
  have ne : ∀ v : Value, (∀ k, v.ownBlock = some k → B ≤ k ∧ k < w.heap.size) → v.ownBlock = none ∨ v.ownBlock ≠ r := by
    intro v hv
    cases e : v.ownBlock with
    | none => exact .inl rfl
    | some g => exact .inr (fun e2 => by have := (hv g e).1; have := hr g e2.symm; omega)
  exact ⟨h.o0.kept hg (ne v0 h.o0.lt), h.o1.kept hg (ne v1 h.o1.lt), h.ap⟩

/-- the boxes of a curve: at block b two slices, free to be written -/
structure Box2 (w : World) (b : Nat) (v0 v1 : Value) : Prop where
  c0 : w.cell? ⟨b, 0, none⟩ = some v0
  c1 : w.cell? ⟨b, 1, none⟩ = some v1
  f : ∀ j, w.frozen? ⟨b, j, none⟩ = false
theorem Box2.grown {w w' : World} {b : Nat} {v0 v1 : Value} (h : Box2 w b v0 v1) {r : Option Nat} (hg : w.grownBy w' r) (hr : some b ≠ r) : Box2 w' b v0 v1 := by
  have hb := World.block_lt_of_cell? _ _ h.c0
  have e := fun j => World.cell?_of_block (w := w) (w' := w') (a := ⟨b, j, none⟩) (hg.block b hb hr)
  exact ⟨(e 0).trans h.c0, (e 1).trans h.c1, fun j => (World.frozen?_of_block (hg.block b hb hr)).trans (h.f j)⟩
theorem Box2.set0 {w : World} {b : Nat} {v0 v1 : Value} (h : Box2 w b v0 v1) (u : Value) : Box2 (w.setCell ⟨b, 0, none⟩ u) b u v1 :=
  ⟨World.cell?_setCell_same w _ _ h.c0, (World.cell?_setCell_other w _ _ _ (by simp)).trans h.c1, fun j => by simpa using h.f j⟩
theorem Box2.set1 {w : World} {b : Nat} {v0 v1 : Value} (h : Box2 w b v0 v1) (u : Value) : Box2 (w.setCell ⟨b, 1, none⟩ u) b v0 u :=
  ⟨(World.cell?_setCell_other w _ _ _ (by simp)).trans h.c0, World.cell?_setCell_same w _ _ h.c1, fun j => by simpa using h.f j⟩

theorem own_slice {w : World} {B : Nat} {e : TypeId} {v : Value} {n : Nat} {xs : List Value} (h : w.ownsRow B e 1 v n xs) : ∃ A c, v = .slice A n c := by
  rcases h.2 with ⟨rfl, rfl⟩ | ⟨g, cap, cur, rfl, _⟩
  · exact ⟨none, 0, rfl⟩
  · exact ⟨_, cap, rfl⟩
theorem own_ne {w : World} {B : Nat} {e : TypeId} {v : Value} {n : Nat} {xs : List Value} (h : w.ownsRow B e 1 v n xs) {x : Nat} (hx : x < B) : some x ≠ v.ownBlock := fun e2 => by
  have := (h.lt x e2.symm).1
  omega
theorem gb_own {w w2 w' : World} {B : Nat} {e : TypeId} {v : Value} {n : Nat} {xs : List Value} {b : Nat} (h0 : w.grownBy w2 (some b)) (h : w2.ownsRow B e 1 v n xs) (hB : w.heap.size ≤ B) (g : w2.grownBy w' v.ownBlock) : w.grownBy w' (some b) :=
  ⟨g.os.trans h0.os, g.tape.trans h0.tape, g.output.trans h0.output, Nat.le_trans h0.size g.size, fun k hk hne => (g.block k (Nat.lt_of_lt_of_le hk h0.size) (own_ne h (by omega))).trans (h0.block k hk hne)⟩
theorem gb_far {w w2 : World} {b : Nat} (h0 : w.grownBy w2 (some b)) {a : Addr} (ha : w.heap.size ≤ a.block) (u : Value) : w.grownBy (w2.setCell a u) (some b) :=
  ⟨h0.os, h0.tape, h0.output, by simpa [World.setCell] using h0.size, fun k hk hne => (Below.heap_setCell w2 a u k (by omega)).trans (h0.block k hk hne)⟩

/-- one number more in the first row -/
theorem Rows2.app0 {w w2 : World} {B : Nat} {v0 v1 v' : Value} {i : Nat} {ls vs : List Int} {y : Int} (h : Rows2 w B v0 v1 i ls vs) (hg : (w.alloc (.cells #[.int .i64 y] 2)).grownBy w2 v0.ownBlock) (ho : w2.ownsRow B 2 1 v' (i + 1) ((ls ++ [y]).map (Value.int .i64))) (hd : v'.ownBlock = v0.ownBlock ∨ ∀ g, v'.ownBlock = some g → w.heap.size < g) :
    w2.ownsRow B 2 1 v1 i (vs.map (Value.int .i64)) ∧ ∀ g, v'.ownBlock = some g → v1.ownBlock ≠ some g := by
  refine ⟨(h.o1.alloc _).kept hg ?_, fun g e e2 => ?_⟩
  · cases e : v1.ownBlock with
    | none => exact .inl rfl
    | some g => exact .inr (fun e2 => h.ap g e2.symm e)
  · rcases hd with hd | hd
    · exact h.ap g (hd ▸ e) e2
    · have := hd g e
      have := (h.o1.lt g e2).2
      omega

/-- what holds behind 'out.Levels = append(out.Levels, y)' -/
theorem st0 {w wr w2 : World} {b n k3 i : Nat} {A0 A1 A' : Option Addr} {c0 c1 c' : Nat} {ls vs : List Int} {y : Int} (hb : b < w.heap.size) (hz : w.heap.size + 2 ≤ wr.heap.size)
    (o0 : wr.ownsRow (w.heap.size + 2) 2 1 (.slice A0 i c0) i (ls.map (Value.int .i64))) (o1 : wr.ownsRow (w.heap.size + 2) 2 1 (.slice A1 i c1) i (vs.map (Value.int .i64))) (ap : ∀ g, (Value.slice A0 i c0).ownBlock = some g → (Value.slice A1 i c1).ownBlock ≠ some g)
    (B : Box2 wr (w.heap.size + 1) (.slice A0 i c0) (.slice A1 i c1)) (Y : Box2 wr w.heap.size (.slice none 0 0) (.slice none 0 0)) (S : Src wr b n k3) (G : w.grownBy wr (some b))
    (own : w2.ownsRow (w.heap.size + 2) 2 1 (.slice A' (i + 1) c') (i + 1) ((ls ++ [y]).map (Value.int .i64))) (gb : (wr.alloc (.cells #[.int .i64 y] 2)).grownBy w2 (Value.slice A0 i c0).ownBlock) (dis : (Value.slice A' (i + 1) c').ownBlock = (Value.slice A0 i c0).ownBlock ∨ ∀ g, (Value.slice A' (i + 1) c').ownBlock = some g → wr.heap.size < g) :
    Box2 w2 (w.heap.size + 1) (.slice A0 i c0) (.slice A1 i c1) ∧ (w2.setCell ⟨w.heap.size + 1, 0, none⟩ (.slice A' (i + 1) c')).ownsRow (w.heap.size + 2) 2 1 (.slice A' (i + 1) c') (i + 1) ((ls ++ [y]).map (Value.int .i64)) ∧ (w2.setCell ⟨w.heap.size + 1, 0, none⟩ (.slice A' (i + 1) c')).ownsRow (w.heap.size + 2) 2 1 (.slice A1 i c1) i (vs.map (Value.int .i64)) ∧
      (∀ g, (Value.slice A' (i + 1) c').ownBlock = some g → (Value.slice A1 i c1).ownBlock ≠ some g) ∧ Box2 (w2.setCell ⟨w.heap.size + 1, 0, none⟩ (.slice A' (i + 1) c')) (w.heap.size + 1) (.slice A' (i + 1) c') (.slice A1 i c1) ∧ Box2 (w2.setCell ⟨w.heap.size + 1, 0, none⟩ (.slice A' (i + 1) c')) w.heap.size (.slice none 0 0) (.slice none 0 0) ∧
      Src (w2.setCell ⟨w.heap.size + 1, 0, none⟩ (.slice A' (i + 1) c')) b n k3 ∧ w.grownBy (w2.setCell ⟨w.heap.size + 1, 0, none⟩ (.slice A' (i + 1) c')) (some b) ∧ w.heap.size + 2 ≤ (w2.setCell ⟨w.heap.size + 1, 0, none⟩ (.slice A' (i + 1) c')).heap.size := by
  have oa := o0.alloc (.cells #[.int .i64 y] 2)
  have ne := fun x hx => own_ne (x := x) oa hx
  have far : ∀ g, (Value.slice A0 i c0).ownBlock = some g → b < g := fun g e => by have := (o0.lt g e).1; omega
  have B1 := (B.grown (gb_alloc wr (.cells #[.int .i64 y] 2) none) (by simp)).grown gb (ne _ (by omega))
  have Y1 := (Y.grown (gb_alloc wr (.cells #[.int .i64 y] 2) none) (by simp)).grown gb (ne _ (by omega))
  have S1 := (S.alloc (.cells #[.int .i64 y] 2)).grown gb far
  have G1 := gb_own (G.trans (gb_alloc wr (.cells #[.int .i64 y] 2) (some b))) oa (by omega) gb
  have z2 : w.heap.size + 2 ≤ w2.heap.size := by have := gb.size; (try simp at this); omega
  have oo : w2.ownsRow (w.heap.size + 2) 2 1 (.slice A1 i c1) i (vs.map (Value.int .i64)) := (o1.alloc (.cells #[.int .i64 y] 2)).kept gb (by
    cases e : (Value.slice A1 i c1).ownBlock with
    | none => exact .inl rfl
    | some g => exact .inr (fun e2 => ap g e2.symm e))
  have st := gb_setCell w2 ⟨w.heap.size + 1, 0, none⟩ (.slice A' (i + 1) c')
  have ne2 : ∀ {v : Value} {m : Nat} {xs : List Value}, w2.ownsRow (w.heap.size + 2) 2 1 v m xs → v.ownBlock = none ∨ v.ownBlock ≠ some (w.heap.size + 1) := fun h => .inr (fun e => by have := (h.lt _ e).1; omega)
  refine ⟨B1, own.kept st (ne2 own), oo.kept st (ne2 oo), fun g e e2 => ?_, B1.set0 _, Y1.grown st (by simp), S1.grown st (fun g e => by injection e with e; subst e; show b < w.heap.size + 1; omega), gb_far G1 (by show w.heap.size ≤ w.heap.size + 1; omega) _, by simpa [World.setCell] using z2⟩
  rcases dis with dis | dis
  · exact ap g (dis ▸ e) e2
  · have := dis g e
    have := (o1.lt g e2).2
    omega

/-- what holds behind 'out.Volumes = append(out.Volumes, y)' -/
theorem st1 {w wr w2 : World} {b n k3 i : Nat} {A0 A1 A' : Option Addr} {c0 c1 c' : Nat} {ls vs : List Int} {y : Int} (hb : b < w.heap.size) (hz : w.heap.size + 2 ≤ wr.heap.size)
    (o0 : wr.ownsRow (w.heap.size + 2) 2 1 (.slice A0 (i + 1) c0) (i + 1) (ls.map (Value.int .i64))) (o1 : wr.ownsRow (w.heap.size + 2) 2 1 (.slice A1 i c1) i (vs.map (Value.int .i64))) (ap : ∀ g, (Value.slice A0 (i + 1) c0).ownBlock = some g → (Value.slice A1 i c1).ownBlock ≠ some g)
    (B : Box2 wr (w.heap.size + 1) (.slice A0 (i + 1) c0) (.slice A1 i c1)) (Y : Box2 wr w.heap.size (.slice none 0 0) (.slice none 0 0)) (S : Src wr b n k3) (G : w.grownBy wr (some b))
    (own : w2.ownsRow (w.heap.size + 2) 2 1 (.slice A' (i + 1) c') (i + 1) ((vs ++ [y]).map (Value.int .i64))) (gb : (wr.alloc (.cells #[.int .i64 y] 2)).grownBy w2 (Value.slice A1 i c1).ownBlock) (dis : (Value.slice A' (i + 1) c').ownBlock = (Value.slice A1 i c1).ownBlock ∨ ∀ g, (Value.slice A' (i + 1) c').ownBlock = some g → wr.heap.size < g) :
    Box2 w2 (w.heap.size + 1) (.slice A0 (i + 1) c0) (.slice A1 i c1) ∧ (w2.setCell ⟨w.heap.size + 1, 1, none⟩ (.slice A' (i + 1) c')).ownsRow (w.heap.size + 2) 2 1 (.slice A' (i + 1) c') (i + 1) ((vs ++ [y]).map (Value.int .i64)) ∧ (w2.setCell ⟨w.heap.size + 1, 1, none⟩ (.slice A' (i + 1) c')).ownsRow (w.heap.size + 2) 2 1 (.slice A0 (i + 1) c0) (i + 1) (ls.map (Value.int .i64)) ∧
      (∀ g, (Value.slice A' (i + 1) c').ownBlock = some g → (Value.slice A0 (i + 1) c0).ownBlock ≠ some g) ∧ Box2 (w2.setCell ⟨w.heap.size + 1, 1, none⟩ (.slice A' (i + 1) c')) (w.heap.size + 1) (.slice A0 (i + 1) c0) (.slice A' (i + 1) c') ∧ Box2 (w2.setCell ⟨w.heap.size + 1, 1, none⟩ (.slice A' (i + 1) c')) w.heap.size (.slice none 0 0) (.slice none 0 0) ∧
      Src (w2.setCell ⟨w.heap.size + 1, 1, none⟩ (.slice A' (i + 1) c')) b n k3 ∧ w.grownBy (w2.setCell ⟨w.heap.size + 1, 1, none⟩ (.slice A' (i + 1) c')) (some b) ∧ w.heap.size + 2 ≤ (w2.setCell ⟨w.heap.size + 1, 1, none⟩ (.slice A' (i + 1) c')).heap.size := by
  have oa := o1.alloc (.cells #[.int .i64 y] 2)
  have ne := fun x hx => own_ne (x := x) oa hx
  have far : ∀ g, (Value.slice A1 i c1).ownBlock = some g → b < g := fun g e => by have := (o1.lt g e).1; omega
  have B1 := (B.grown (gb_alloc wr (.cells #[.int .i64 y] 2) none) (by simp)).grown gb (ne _ (by omega))
  have Y1 := (Y.grown (gb_alloc wr (.cells #[.int .i64 y] 2) none) (by simp)).grown gb (ne _ (by omega))
  have S1 := (S.alloc (.cells #[.int .i64 y] 2)).grown gb far
  have G1 := gb_own (G.trans (gb_alloc wr (.cells #[.int .i64 y] 2) (some b))) oa (by omega) gb
  have z2 : w.heap.size + 2 ≤ w2.heap.size := by have := gb.size; (try simp at this); omega
  have oo : w2.ownsRow (w.heap.size + 2) 2 1 (.slice A0 (i + 1) c0) (i + 1) (ls.map (Value.int .i64)) := (o0.alloc (.cells #[.int .i64 y] 2)).kept gb (by
    cases e : (Value.slice A0 (i + 1) c0).ownBlock with
    | none => exact .inl rfl
    | some g => exact .inr (fun e2 => ap g e e2.symm))
  have st := gb_setCell w2 ⟨w.heap.size + 1, 1, none⟩ (.slice A' (i + 1) c')
  have ne2 : ∀ {v : Value} {m : Nat} {xs : List Value}, w2.ownsRow (w.heap.size + 2) 2 1 v m xs → v.ownBlock = none ∨ v.ownBlock ≠ some (w.heap.size + 1) := fun h => .inr (fun e => by have := (h.lt _ e).1; omega)
  refine ⟨B1, own.kept st (ne2 own), oo.kept st (ne2 oo), fun g e e2 => ?_, B1.set1 _, Y1.grown st (by simp), S1.grown st (fun g e => by injection e with e; subst e; show b < w.heap.size + 1; omega), gb_far G1 (by show w.heap.size ≤ w.heap.size + 1; omega) _, by simpa [World.setCell] using z2⟩
  rcases dis with dis | dis
  · exact ap g e2 (dis ▸ e)
  · have := dis g e
    have := (o0.lt g e2).2
    omega

set_option maxRecDepth 100000 in
set_option maxHeartbeats 6400000 in
theorem l05Draw_t (b n k : Nat) (w : World) (h : Src w b n k) (hn : n ≤ 1048576) (hk : k ≤ 1020000) :
    Calls Tryd.prog 67 #[.pointer (some ⟨b, 0, none⟩)] w fun e w' => ∃ (v0 v1 : Value) (m k' : Nat) (ls vs : List Int), e = .returned (.agg #[v0, v1]) ∧ 2 ≤ m ∧ m ≤ 5 ∧ Wf ls ∧ Wf vs ∧ Rows2 w' w.heap.size v0 v1 m ls vs ∧ Src w' b n k' ∧ k' ≤ k + 30 ∧ w.grownBy w' (some b) := by
  have hbs := h.bs
  have HW0 := Lib.hid (show Src ((w.alloc (.cells #[.slice none 0 0, .slice none 0 0] 37)).alloc (.cells #[.slice none 0 0, .slice none 0 0] 37)) b n k from (h.alloc _).alloc _)
  clear h
  go_enter Tryd.func67, Tryd.ntmps67
  go_wp2_with fail
  refine (pick_t b n k 20 _ HW0.out hn (by omega) (by omega)).mono ?_
  rintro e1 W1 ⟨r1, k1, rfl, q1, q2, q3, S1, q4, g1⟩
  have q5 : r1 < 20 := q2 (by omega)
  have G1 := Lib.hid (show w.grownBy W1 (some b) from ((gb_alloc w _ _).trans (gb_alloc _ _ _)).trans g1)
  have X1 := Lib.hid (show Box2 W1 (w.heap.size + 1) (.slice none 0 0) (.slice none 0 0) from Box2.grown (w := (w.alloc (.cells #[.slice none 0 0, .slice none 0 0] 37)).alloc (.cells #[.slice none 0 0, .slice none 0 0] 37)) ⟨by simp, by simp, fun j => by simp⟩ g1 (by simp; omega))
  have Y1 := Lib.hid (show Box2 W1 w.heap.size (.slice none 0 0) (.slice none 0 0) from Box2.grown (w := (w.alloc (.cells #[.slice none 0 0, .slice none 0 0] 37)).alloc (.cells #[.slice none 0 0, .slice none 0 0] 37)) ⟨by simp, by simp, fun j => by simp⟩ g1 (by simp; omega))
  have Z1 : w.heap.size + 2 ≤ W1.heap.size := by have := g1.size; (try simp at this); omega
  have HS1 := Lib.hid S1
  clear S1 q2 q3 g1
  go_wp2_with fail
  refine (pick_t b n k1 4 _ HS1.out hn (by omega) (by omega)).mono ?_
  rintro e2 W2 ⟨r2, k2, rfl, p1, p2, p3, S2, p4, g2⟩
  have p5 : r2 < 4 := p2 (by omega)
  have G2 := Lib.hid (G1.out.trans g2)
  have X2 := Lib.hid (X1.out.grown g2 (by simp; omega))
  have Y2 := Lib.hid (Y1.out.grown g2 (by simp; omega))
  have Z2 : w.heap.size + 2 ≤ W2.heap.size := by have := g2.size; omega
  have HS2 := Lib.hid S2
  clear S2 p2 p3 g2
  obtain ⟨m, hm⟩ : ∃ m : Nat, 2 + r2 = (m : Int) := ⟨(2 + r2).toNat, by omega⟩
  have hm2 : 2 ≤ m := by omega
  have hm5 : m ≤ 5 := by omega
  go_wp2
  go_loopw [4, 5, 6] (fun s4 s5 s6 wr => ∃ (i j k3 : Nat) (lv vo : Int) (A0 : Option Addr) (c0 : Nat) (A1 : Option Addr) (c1 : Nat) (ls vs : List Int), s4 = .int .i64 lv ∧ s5 = .int .i64 vo ∧ s6 = .int .i64 (j : Int) ∧ i + j = m ∧ -300 ≤ lv ∧ lv ≤ 1000 + 60 * (i : Int) ∧ 0 ≤ vo ∧ vo ≤ 4000 * (i : Int) ∧ k3 ≤ k + 4 + 4 * i ∧ w.heap.size + 2 ≤ wr.heap.size ∧ Hid (Wf ls ∧ Wf vs ∧ Rows2 wr (w.heap.size + 2) (.slice A0 i c0) (.slice A1 i c1) i ls vs ∧ Box2 wr (w.heap.size + 1) (.slice A0 i c0) (.slice A1 i c1) ∧ Box2 wr w.heap.size (.slice none 0 0) (.slice none 0 0) ∧ Src wr b n k3 ∧ w.grownBy wr (some b))) (fun _ _ s6 _ => (intOf s6).toNat)
  case atStart => exact ⟨0, m, k2, _, _, none, 0, none, 0, [], [], rfl, rfl, by rw [← hm], by omega, by omega, by omega, by omega, by omega, by omega, Z2, by simp [Wf], by simp [Wf], ⟨World.ownsRow_nil _ _ _ _, World.ownsRow_nil _ _ _ _, fun g e => by cases e⟩, X2.out, Y2.out, HS2.out, G2.out⟩
  case round =>
    obtain ⟨i, j, k3, lv, vo, A0, c0, A1, c1, ls, vs, rfl, rfl, rfl, hij, a1, a2, a3, a4, a5, a6, hr⟩ := hrel
    by_cases hj : 0 < j
    · have hj2 : (0 : Int) < (j : Int) := by omega
      obtain ⟨h1, h2, h3, h4, h5, h6, h7⟩ := hr.out
      have x0 := h4.c0
      have x1 := h4.c1
      have O0 := Lib.hid h3.o0
      have R0 := Lib.hid h3
      have B0 := Lib.hid h4
      have Y0 := Lib.hid h5
      have S0 := Lib.hid h6
      have G0 := Lib.hid h7
      have HF := Lib.hid (And.intro h1 h2)
      clear h1 h2 h3 h4 h5 h6 h7
      go_wp2_with (first | (at_builtin; refine wpl_appD rfl _ _ rfl wr (w.heap.size + 2) i (.slice A0 i c0) ls lv rfl O0.out rfl (by omega) (by omega) ?_; intro v0' w2 own0 gb0 dis0; obtain ⟨A0', c0', rfl⟩ := own_slice own0; obtain ⟨t1, t2, t3, t4, t5, t6, t7, t8, t9⟩ := st0 hbs a6 R0.out.o0 R0.out.o1 R0.out.ap B0.out Y0.out S0.out G0.out own0 gb0 dis0; have y0 := t1.c0; have y1 := t1.c1; have yf := t1.f 0; have T2 := Lib.hid t2; have T3 := Lib.hid t3; have T4 := Lib.hid t4; have T5 := Lib.hid t5; have T6 := Lib.hid t6; have T7 := Lib.hid t7; have T8 := Lib.hid t8; have z2 : w.heap.size + 2 ≤ w2.heap.size := (by simpa [World.setCell] using t9); have T9 := Lib.hid t9; clear own0 gb0 dis0 t1 t2 t3 t4 t5 t6 t7 t8 t9 x0 x1) | (at_builtin; refine wpl_appD rfl (.tmp 26) (.tmp 28) rfl (w2.setCell ⟨w.heap.size + 1, 0, none⟩ (.slice A0' (i + 1) c0')) (w.heap.size + 2) i (.slice A1 i c1) vs vo rfl T3.out ((show _ = Value.slice (some ⟨w2.heap.size, 0, none⟩) 1 1 from rfl).trans (by simp [World.setCell])) (by omega) (by have := T9.out; omega) ?_; intro v1' w3 own1 gb1 dis1; obtain ⟨A1', c1', rfl⟩ := own_slice own1; obtain ⟨t1, t2, t3, t4, t5, t6, t7, t8, t9⟩ := st1 hbs T9.out T2.out T3.out T4.out T5.out T6.out T7.out T8.out own1 gb1 dis1; have yy0 := t1.c0; have yy1 := t1.c1; have yyf := t1.f 1; have U2 := Lib.hid t2; have U3 := Lib.hid t3; have U4 := Lib.hid t4; have U5 := Lib.hid t5; have U6 := Lib.hid t6; have U7 := Lib.hid t7; have U8 := Lib.hid t8; have U9 := Lib.hid t9; clear own1 gb1 dis1 t1 t2 t3 t4 t5 t6 t7 t8 t9 y0 y1 yf))
      refine (pick_t b n k3 60 _ U7.out hn (by omega) (by omega)).mono ?_
      rintro e4 W4 ⟨r4, k4, rfl, q41, q42, q43, S4, q44, g4⟩
      have q45 : r4 < 60 := q42 (by omega)
      have HS4 := Lib.hid S4
      have G4 := Lib.hid g4
      clear S4 q42 q43 g4
      go_wp2_with fail
      refine (pick_t b n k4 4000 _ HS4.out hn (by omega) (by omega)).mono ?_
      rintro e5 W5 ⟨r5, k5, rfl, q51, q52, q53, S5, q54, g5⟩
      have q55 : r5 < 4000 := q52 (by omega)
      have HS5 := Lib.hid S5
      have G5 := Lib.hid (G4.out.trans g5)
      clear S5 q52 q53 g5
      go_wp2
      go_roundw
      case rel => exact ⟨i + 1, j - 1, k5, _, _, A0', c0', A1', c1', ls ++ [lv], vs ++ [vo], rfl, rfl, by rw [show ((j - 1 : Nat) : Int) = (j : Int) - 1 by omega], by omega, by omega, by omega, by omega, by omega, by omega, by have := U9.out; have := G5.out.size; omega, (by
        intro x hx
        rcases List.mem_append.1 hx with hx | hx
        · exact HF.out.1 x hx
        · simp at hx; subst hx; exact WalkArith.wf_i64 (by omega)), (by
        intro x hx
        rcases List.mem_append.1 hx with hx | hx
        · exact HF.out.2 x hx
        · simp at hx; subst hx; exact WalkArith.wf_i64 (by omega)), Rows2.kept ⟨U3.out, U2.out, fun g e e2 => U4.out g e2 e⟩ G5.out (fun g e => by injection e with e; omega), U5.out.grown G5.out (by simp; omega), U6.out.grown G5.out (by simp; omega), HS5.out, U8.out.trans G5.out⟩
      case measure => simp [intOf]; omega
    · obtain rfl : j = 0 := by omega
      obtain rfl : i = m := by omega
      obtain ⟨h1, h2, h3, h4, h5, h6, h7⟩ := hr.out
      have x0 := h4.c0
      have x1 := h4.c1
      have p0 := h5.c0
      have p1 := h5.c1
      have pf0 := h5.f 0
      have pf1 := h5.f 1
      have R0 := Lib.hid h3
      have S0 := Lib.hid h6
      have G0 := Lib.hid h7
      have HF := Lib.hid (And.intro h1 h2)
      clear h1 h2 h3 h4 h5 h6 h7 hr
      go_wp2
      have G5 := Lib.hid (gb_far (gb_far G0.out (a := ⟨w.heap.size, 0, none⟩) (Nat.le_refl _) (.slice A0 i c0)) (a := ⟨w.heap.size, 1, none⟩) (Nat.le_refl _) (.slice A1 i c1))
      have HSF := Lib.hid ((S0.out.grown (gb_setCell wr ⟨w.heap.size, 0, none⟩ (.slice A0 i c0)) (fun g e => by injection e with e; subst e; exact hbs)).grown (gb_setCell _ ⟨w.heap.size, 1, none⟩ (.slice A1 i c1)) (fun g e => by injection e with e; subst e; exact hbs))
      have HRF := Lib.hid ((R0.out.kept (gb_setCell wr ⟨w.heap.size, 0, none⟩ (.slice A0 i c0)) (fun g e => by injection e with e; subst e; show w.heap.size < _; omega)).kept (gb_setCell _ ⟨w.heap.size, 1, none⟩ (.slice A1 i c1)) (fun g e => by injection e with e; subst e; show w.heap.size < _; omega))
      exact bodyPost_ret (v := .agg #[.slice A0 i c0, .slice A1 i c1]) (by simp [results, Tryd.results67, go_sem, p0, p1, pf0, pf1]) rfl ⟨_, _, i, k3, ls, vs, rfl, by omega, by omega, HF.out.1, HF.out.2, ⟨own_mono HRF.out.o0 (by omega), own_mono HRF.out.o1 (by omega), HRF.out.ap⟩, HSF.out, by omega, G5.out⟩

end Go.Proofs.YthjcpgabdlfojaaDoor
