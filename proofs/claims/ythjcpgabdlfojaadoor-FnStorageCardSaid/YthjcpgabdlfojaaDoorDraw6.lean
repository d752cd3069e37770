/- A drawn curve under way: its two rows, its box, the source; what a draw, an append and a store keep. -/
import Derived.Test.YthjcpgabdlfojaaDoorDraw5
namespace Go.Proofs.YthjcpgabdlfojaaDoor
open Go.RowKit

structure PS (w W : World) (b n k O : Nat) (A0 : Option Addr) (c0 m0 : Nat) (A1 : Option Addr) (c1 m1 : Nat) (ls vs : List Int) : Prop where
  o0 : W.ownsRow (w.heap.size + 1) 2 1 (.slice A0 m0 c0) m0 (ls.map (Value.int .i64))
  o1 : W.ownsRow (w.heap.size + 1) 2 1 (.slice A1 m1 c1) m1 (vs.map (Value.int .i64))
  ap : ∀ g, (Value.slice A0 m0 c0).ownBlock = some g → (Value.slice A1 m1 c1).ownBlock ≠ some g
  n0 : (Value.slice A0 m0 c0).ownBlock ≠ some O
  n1 : (Value.slice A1 m1 c1).ownBlock ≠ some O
  box : Box2 W O (.slice A0 m0 c0) (.slice A1 m1 c1)
  res : Box2 W w.heap.size (.slice none 0 0) (.slice none 0 0)
  src : Src W b n k
  gb : w.grownBy W (some b)
  hO : w.heap.size < O
  hb : b < w.heap.size
  f0 : Wf ls
  f1 : Wf vs
section
variable {w W W' w2 : World} {b n k k' O : Nat} {A0 : Option Addr} {c0 m0 : Nat} {A1 : Option Addr} {c1 m1 : Nat} {ls vs : List Int} {A' : Option Addr} {c' : Nat} {y : Int}
theorem PS.grown (h : PS w W b n k O A0 c0 m0 A1 c1 m1 ls vs) (hg : W.grownBy W' (some b)) (hs : Src W' b n k') : PS w W' b n k' O A0 c0 m0 A1 c1 m1 ls vs := by
  have hb := h.hb
  have hO := h.hO
  exact ⟨h.o0.kept hg (.inr fun e => own_ne h.o0 (x := b) (by omega) e.symm), h.o1.kept hg (.inr fun e => own_ne h.o1 (x := b) (by omega) e.symm), h.ap, h.n0, h.n1, h.box.grown hg (by simp; omega), h.res.grown hg (by simp; omega), hs, h.gb.trans hg, hO, hb, h.f0, h.f1⟩
theorem gb_drew (W : World) (r : Option Nat) : W.grownBy W.drew r := ⟨rfl, rfl, rfl, Nat.le_refl _, fun _ _ _ => rfl⟩
theorem PS.drew (h : PS w W b n k O A0 c0 m0 A1 c1 m1 ls vs) : PS w W.drew b n k O A0 c0 m0 A1 c1 m1 ls vs := h.grown (gb_drew W _) (h.src.grown (gb_drew W none) (fun g e => by cases e))
theorem PS.alloc (h : PS w W b n k O A0 c0 m0 A1 c1 m1 ls vs) (o : Obj) : PS w (W.alloc o) b n k O A0 c0 m0 A1 c1 m1 ls vs := h.grown (gb_alloc W o _) (h.src.alloc o)
theorem wf_app (h : Wf ls) (hy : (Lit.int .i64 y).wf = true) : Wf (ls ++ [y]) := by
  intro x hx
  rcases List.mem_append.1 hx with hx | hx
  · exact h x hx
  · simp at hx
    subst hx
    exact hy
theorem wf_set (h : Wf ls) (hy : (Lit.int .i64 y).wf = true) (j : Nat) : Wf (ls.set j y) := by
  intro x hx
  rcases List.mem_or_eq_of_mem_set hx with hx | rfl
  · exact h x hx
  · exact hy
/-- one number more in the first row -/
theorem PS.app0 (h : PS w W b n k O A0 c0 m0 A1 c1 m1 ls vs) (hy : (Lit.int .i64 y).wf = true)
    (own : w2.ownsRow (w.heap.size + 1) 2 1 (.slice A' (m0 + 1) c') (m0 + 1) ((ls ++ [y]).map (Value.int .i64))) (gb : (W.alloc (.cells #[.int .i64 y] 2)).grownBy w2 (Value.slice A0 m0 c0).ownBlock) (dis : (Value.slice A' (m0 + 1) c').ownBlock = (Value.slice A0 m0 c0).ownBlock ∨ ∀ g, (Value.slice A' (m0 + 1) c').ownBlock = some g → W.heap.size < g) :
    Box2 w2 O (.slice A0 m0 c0) (.slice A1 m1 c1) ∧ PS w (w2.setCell ⟨O, 0, none⟩ (.slice A' (m0 + 1) c')) b n k O A' c' (m0 + 1) A1 c1 m1 (ls ++ [y]) vs := by
  have hb := h.hb
  have hO := h.hO
  have OW : O < W.heap.size := World.block_lt_of_cell? _ _ h.box.c0
  have B1 : Box2 w2 O (.slice A0 m0 c0) (.slice A1 m1 c1) := (h.box.grown (gb_alloc W (.cells #[.int .i64 y] 2) none) (by simp)).grown gb (fun e => h.n0 e.symm)
  have Y1 : Box2 w2 w.heap.size (.slice none 0 0) (.slice none 0 0) := (h.res.grown (gb_alloc W (.cells #[.int .i64 y] 2) none) (by simp)).grown gb (own_ne h.o0 (by omega))
  have S1 : Src w2 b n k := (h.src.alloc (.cells #[.int .i64 y] 2)).grown gb (fun g e => by have := (h.o0.lt g e).1; omega)
  have G1 : w.grownBy w2 (some b) := gb_own (h.gb.trans (gb_alloc W (.cells #[.int .i64 y] 2) (some b))) (h.o0.alloc _) (by omega) gb
  have oo : w2.ownsRow (w.heap.size + 1) 2 1 (.slice A1 m1 c1) m1 (vs.map (Value.int .i64)) := (h.o1.alloc (.cells #[.int .i64 y] 2)).kept gb (by
    cases e : (Value.slice A1 m1 c1).ownBlock with
    | none => exact .inl rfl
    | some g => exact .inr (fun e2 => h.ap g e2.symm e))
  have st := gb_setCell w2 ⟨O, 0, none⟩ (.slice A' (m0 + 1) c')
  have n0' : (Value.slice A' (m0 + 1) c').ownBlock ≠ some O := by
    rcases dis with dis | dis
    · rw [dis]; exact h.n0
    · intro e; have := dis O e; omega
  refine ⟨B1, own.kept st (.inr n0'), oo.kept st (.inr h.n1), fun g e e2 => ?_, n0', h.n1, B1.set0 _, Y1.grown st (by simp; omega), S1.grown st (fun g e => by injection e with e; subst e; show b < O; omega), gb_far G1 (by show w.heap.size ≤ O; omega) _, hO, hb, wf_app h.f0 hy, h.f1⟩
  rcases dis with dis | dis
  · exact h.ap g (dis ▸ e) e2
  · have := dis g e
    have := (h.o1.lt g e2).2
    omega
/-- one number more in the second row -/
theorem PS.app1 (h : PS w W b n k O A0 c0 m0 A1 c1 m1 ls vs) (hy : (Lit.int .i64 y).wf = true)
    (own : w2.ownsRow (w.heap.size + 1) 2 1 (.slice A' (m1 + 1) c') (m1 + 1) ((vs ++ [y]).map (Value.int .i64))) (gb : (W.alloc (.cells #[.int .i64 y] 2)).grownBy w2 (Value.slice A1 m1 c1).ownBlock) (dis : (Value.slice A' (m1 + 1) c').ownBlock = (Value.slice A1 m1 c1).ownBlock ∨ ∀ g, (Value.slice A' (m1 + 1) c').ownBlock = some g → W.heap.size < g) :
    Box2 w2 O (.slice A0 m0 c0) (.slice A1 m1 c1) ∧ PS w (w2.setCell ⟨O, 1, none⟩ (.slice A' (m1 + 1) c')) b n k O A0 c0 m0 A' c' (m1 + 1) ls (vs ++ [y]) := by
  have hb := h.hb
  have hO := h.hO
  have OW : O < W.heap.size := World.block_lt_of_cell? _ _ h.box.c0
  have B1 : Box2 w2 O (.slice A0 m0 c0) (.slice A1 m1 c1) := (h.box.grown (gb_alloc W (.cells #[.int .i64 y] 2) none) (by simp)).grown gb (fun e => h.n1 e.symm)
  have Y1 : Box2 w2 w.heap.size (.slice none 0 0) (.slice none 0 0) := (h.res.grown (gb_alloc W (.cells #[.int .i64 y] 2) none) (by simp)).grown gb (own_ne h.o1 (by omega))
  have S1 : Src w2 b n k := (h.src.alloc (.cells #[.int .i64 y] 2)).grown gb (fun g e => by have := (h.o1.lt g e).1; omega)
  have G1 : w.grownBy w2 (some b) := gb_own (h.gb.trans (gb_alloc W (.cells #[.int .i64 y] 2) (some b))) (h.o1.alloc _) (by omega) gb
  have oo : w2.ownsRow (w.heap.size + 1) 2 1 (.slice A0 m0 c0) m0 (ls.map (Value.int .i64)) := (h.o0.alloc (.cells #[.int .i64 y] 2)).kept gb (by
    cases e : (Value.slice A0 m0 c0).ownBlock with
    | none => exact .inl rfl
    | some g => exact .inr (fun e2 => h.ap g e e2.symm))
  have st := gb_setCell w2 ⟨O, 1, none⟩ (.slice A' (m1 + 1) c')
  have n1' : (Value.slice A' (m1 + 1) c').ownBlock ≠ some O := by
    rcases dis with dis | dis
    · rw [dis]; exact h.n1
    · intro e; have := dis O e; omega
  refine ⟨B1, oo.kept st (.inr h.n0), own.kept st (.inr n1'), fun g e e2 => ?_, h.n0, n1', B1.set1 _, Y1.grown st (by simp; omega), S1.grown st (fun g e => by injection e with e; subst e; show b < O; omega), gb_far G1 (by show w.heap.size ≤ O; omega) _, hO, hb, h.f0, wf_app h.f1 hy⟩
  rcases dis with dis | dis
  · exact h.ap g e (dis ▸ e2)
  · have := dis g e2
    have := (h.o0.lt g e).2
    omega
/-- the curve is cleared -/
theorem PS.clear (h : PS w W b n k O A0 c0 m0 A1 c1 m1 ls vs) : PS w ((W.setCell ⟨O, 0, none⟩ (.slice none 0 0)).setCell ⟨O, 1, none⟩ (.slice none 0 0)) b n k O none 0 0 none 0 0 [] [] := by
  have hb := h.hb
  have hO := h.hO
  have s0 := gb_setCell W ⟨O, 0, none⟩ (.slice none 0 0)
  have s1 := gb_setCell (W.setCell ⟨O, 0, none⟩ (.slice none 0 0)) ⟨O, 1, none⟩ (.slice none 0 0)
  have far : ∀ g, some O = some g → b < g := fun g e => by injection e with e; omega
  exact ⟨World.ownsRow_nil _ _ _ _, World.ownsRow_nil _ _ _ _, fun g e => (by cases e), fun e => (by cases e), fun e => (by cases e), (h.box.set0 _).set1 _, (h.res.grown s0 (by simp; omega)).grown s1 (by simp; omega), (h.src.grown s0 far).grown s1 far,
    gb_far (gb_far h.gb (a := ⟨O, 0, none⟩) (by show w.heap.size ≤ O; omega) _) (a := ⟨O, 1, none⟩) (by show w.heap.size ≤ O; omega) _, hO, hb, (by intro x hx; cases hx), (by intro x hx; cases hx)⟩

/-- a drawn curve, its rows to be read and written -/
structure RS (w W : World) (b n k O : Nat) (A0 : Option Addr) (c0 m0 : Nat) (A1 : Option Addr) (c1 m1 : Nat) (ls vs : List Int) : Prop where
  w0 : Wr W (w.heap.size + 1) A0 m0 ls
  w1 : Wr W (w.heap.size + 1) A1 m1 vs
  box : Box2 W O (.slice A0 m0 c0) (.slice A1 m1 c1)
  res : Box2 W w.heap.size (.slice none 0 0) (.slice none 0 0)
  src : Src W b n k
  gb : w.grownBy W (some b)
  hO : w.heap.size < O
  hb : b < w.heap.size
  f0 : Wf ls
  f1 : Wf vs
theorem PS.w0 (h : PS w W b n k O A0 c0 m0 A1 c1 m1 ls vs) : Wr W (w.heap.size + 1) A0 m0 ls := by
  obtain ⟨A, c, e, hw⟩ := own_wr h.o0
  cases e
  exact hw
theorem PS.w1 (h : PS w W b n k O A0 c0 m0 A1 c1 m1 ls vs) : Wr W (w.heap.size + 1) A1 m1 vs := by
  obtain ⟨A, c, e, hw⟩ := own_wr h.o1
  cases e
  exact hw
theorem PS.rs (h : PS w W b n k O A0 c0 m0 A1 c1 m1 ls vs) : RS w W b n k O A0 c0 m0 A1 c1 m1 ls vs := ⟨h.w0, h.w1, h.box, h.res, h.src, h.gb, h.hO, h.hb, h.f0, h.f1⟩
theorem PS.addr0 (h : PS w W b n k O A0 c0 m0 A1 c1 m1 ls vs) (hm : 0 < m0) : ∃ g, A0 = some ⟨g, 0, none⟩ := by
  rcases h.o0.2 with ⟨e, h2⟩ | ⟨g, cap, cur, e, _⟩
  · have := h.o0.1
    omega
  · cases e
    exact ⟨g, rfl⟩
theorem PS.addr1 (h : PS w W b n k O A0 c0 m0 A1 c1 m1 ls vs) (hm : 0 < m1) : ∃ g, A1 = some ⟨g, 0, none⟩ := by
  rcases h.o1.2 with ⟨e, h2⟩ | ⟨g, cap, cur, e, _⟩
  · have := h.o1.1
    omega
  · cases e
    exact ⟨g, rfl⟩
theorem PS.cell0 {g : Nat} (h : PS w W b n k O (some ⟨g, 0, none⟩) c0 m0 A1 c1 m1 ls vs) {j : Nat} (hj : j < m0) : W.cell? ⟨g, j, none⟩ = some (.int .i64 (ls.getD j 0)) ∧ W.frozen? ⟨g, j, none⟩ = false := by
  obtain ⟨b', off, e, _, _, hc⟩ := h.w0.2 (by omega)
  injection e with e
  injection e with e1 e2
  subst e1
  subst e2
  simpa using hc j hj
theorem PS.cell1 {g : Nat} (h : PS w W b n k O A0 c0 m0 (some ⟨g, 0, none⟩) c1 m1 ls vs) {j : Nat} (hj : j < m1) : W.cell? ⟨g, j, none⟩ = some (.int .i64 (vs.getD j 0)) ∧ W.frozen? ⟨g, j, none⟩ = false := by
  obtain ⟨b', off, e, _, _, hc⟩ := h.w1.2 (by omega)
  injection e with e
  injection e with e1 e2
  subst e1
  subst e2
  simpa using hc j hj
/-- a store into the first row -/
theorem PS.put0 {g : Nat} (h : PS w W b n k O (some ⟨g, 0, none⟩) c0 m0 A1 c1 m1 ls vs) {j : Nat} (hj : j < m0) (hy : (Lit.int .i64 y).wf = true) : RS w (W.setCell ⟨g, j, none⟩ (.int .i64 y)) b n k O (some ⟨g, 0, none⟩) c0 m0 A1 c1 m1 (ls.set j y) vs := by
  have hb := h.hb
  have hO := h.hO
  have hg := h.o0.lt g rfl
  have hgO : g ≠ O := fun e => h.n0 (by rw [e]; rfl)
  have st := gb_setCell W ⟨g, j, none⟩ (.int .i64 y)
  refine ⟨by simpa using h.w0.put hj y, h.w1.grown st (fun hm e => ?_), h.box.grown st (fun e => hgO (Option.some.inj e).symm), h.res.grown st (by simp; omega), h.src.grown st (fun g' e => by injection e with e; subst e; show b < g; omega), gb_far h.gb (by show w.heap.size ≤ g; omega) _, hO, hb, wf_set h.f0 hy j, h.f1⟩
  obtain ⟨g1, rfl⟩ := h.addr1 hm
  have e' : g1 = g := by simpa [ablk] using e
  exact h.ap g rfl (by rw [e']; rfl)
/-- a store into the second row -/
theorem PS.put1 {g : Nat} (h : PS w W b n k O A0 c0 m0 (some ⟨g, 0, none⟩) c1 m1 ls vs) {j : Nat} (hj : j < m1) (hy : (Lit.int .i64 y).wf = true) : RS w (W.setCell ⟨g, j, none⟩ (.int .i64 y)) b n k O A0 c0 m0 (some ⟨g, 0, none⟩) c1 m1 ls (vs.set j y) := by
  have hb := h.hb
  have hO := h.hO
  have hg := h.o1.lt g rfl
  have hgO : g ≠ O := fun e => h.n1 (by rw [e]; rfl)
  have st := gb_setCell W ⟨g, j, none⟩ (.int .i64 y)
  refine ⟨h.w0.grown st (fun hm e => ?_), by simpa using h.w1.put hj y, h.box.grown st (fun e => hgO (Option.some.inj e).symm), h.res.grown st (by simp; omega), h.src.grown st (fun g' e => by injection e with e; subst e; show b < g; omega), gb_far h.gb (by show w.heap.size ≤ g; omega) _, hO, hb, h.f0, wf_set h.f1 hy j⟩
  obtain ⟨g1, rfl⟩ := h.addr0 hm
  have e' : g1 = g := by simpa [ablk] using e
  exact h.ap g (by rw [e']; rfl) rfl
/-- the result is laid in its box -/
theorem RS.fin (h : RS w W b n k O A0 c0 m0 A1 c1 m1 ls vs) :
    ((W.setCell ⟨w.heap.size, 0, none⟩ (.slice A0 m0 c0)).setCell ⟨w.heap.size, 1, none⟩ (.slice A1 m1 c1)).cell? ⟨w.heap.size, 0, none⟩ = some (.slice A0 m0 c0) ∧
    ((W.setCell ⟨w.heap.size, 0, none⟩ (.slice A0 m0 c0)).setCell ⟨w.heap.size, 1, none⟩ (.slice A1 m1 c1)).cell? ⟨w.heap.size, 1, none⟩ = some (.slice A1 m1 c1) ∧
    Wr ((W.setCell ⟨w.heap.size, 0, none⟩ (.slice A0 m0 c0)).setCell ⟨w.heap.size, 1, none⟩ (.slice A1 m1 c1)) w.heap.size A0 m0 ls ∧
    Wr ((W.setCell ⟨w.heap.size, 0, none⟩ (.slice A0 m0 c0)).setCell ⟨w.heap.size, 1, none⟩ (.slice A1 m1 c1)) w.heap.size A1 m1 vs ∧
    Src ((W.setCell ⟨w.heap.size, 0, none⟩ (.slice A0 m0 c0)).setCell ⟨w.heap.size, 1, none⟩ (.slice A1 m1 c1)) b n k ∧ w.grownBy ((W.setCell ⟨w.heap.size, 0, none⟩ (.slice A0 m0 c0)).setCell ⟨w.heap.size, 1, none⟩ (.slice A1 m1 c1)) (some b) := by
  have hb := h.hb
  have R := (h.res.set0 (.slice A0 m0 c0)).set1 (.slice A1 m1 c1)
  have far : ∀ g, some w.heap.size = some g → b < g := fun g e => by injection e with e; omega
  exact ⟨R.c0, R.c1, (((h.w0.setLow (a := ⟨w.heap.size, 0, none⟩) (by simp) _).setLow (a := ⟨w.heap.size, 1, none⟩) (by simp) _).lower (by omega)), (((h.w1.setLow (a := ⟨w.heap.size, 0, none⟩) (by simp) _).setLow (a := ⟨w.heap.size, 1, none⟩) (by simp) _).lower (by omega)),
    (h.src.grown (gb_setCell W ⟨w.heap.size, 0, none⟩ _) far).grown (gb_setCell _ ⟨w.heap.size, 1, none⟩ _) far, gb_far (gb_far h.gb (a := ⟨w.heap.size, 0, none⟩) (Nat.le_refl _) _) (a := ⟨w.heap.size, 1, none⟩) (Nat.le_refl _) _⟩
end
/-- the curve that has just been drawn, in a new box -/
theorem bent_start {w W1 : World} {b n k1 m : Nat} {A0 A1 : Option Addr} {c0 c1 : Nat} {ls vs : List Int} (hbs : b < w.heap.size)
    (R : Rows2 W1 (w.alloc (.cells #[.slice none 0 0, .slice none 0 0] 37)).heap.size (.slice A0 m c0) (.slice A1 m c1) m ls vs) (S : Src W1 b n k1) (g : (w.alloc (.cells #[.slice none 0 0, .slice none 0 0] 37)).grownBy W1 (some b)) (f0 : Wf ls) (f1 : Wf vs) :
    PS w (W1.alloc (.cells #[.slice A0 m c0, .slice A1 m c1] 37)) b n k1 W1.heap.size A0 c0 m A1 c1 m ls vs := by
  have e : (w.alloc (.cells #[.slice none 0 0, .slice none 0 0] 37)).heap.size = w.heap.size + 1 := by simp
  have sz := g.size
  rw [e] at R sz
  have hn := heap_alloc_new W1 (.cells #[.slice A0 m c0, .slice A1 m c1] 37)
  have h0 := heap_alloc_new w (.cells #[.slice none 0 0, .slice none 0 0] 37)
  have B0 : Box2 (w.alloc (.cells #[.slice none 0 0, .slice none 0 0] 37)) w.heap.size (.slice none 0 0) (.slice none 0 0) := ⟨by rw [cell_of_row _ _ _ _ _ _ h0]; rfl, by rw [cell_of_row _ _ _ _ _ _ h0]; rfl, fun j => frozen_of_row h0 _⟩
  exact ⟨R.o0.alloc _, R.o1.alloc _, R.ap, fun e => by have := (R.o0.lt _ e).2; omega, fun e => by have := (R.o1.lt _ e).2; omega, ⟨by rw [cell_of_row _ _ _ _ _ _ hn]; rfl, by rw [cell_of_row _ _ _ _ _ _ hn]; rfl, fun j => frozen_of_row hn _⟩,
    (B0.grown g (by simp; omega)).grown (gb_alloc _ _ none) (by simp), S.alloc _, ((gb_alloc w _ _).trans g).trans (gb_alloc _ _ _), by omega, hbs, f0, f1⟩

end Go.Proofs.YthjcpgabdlfojaaDoor
