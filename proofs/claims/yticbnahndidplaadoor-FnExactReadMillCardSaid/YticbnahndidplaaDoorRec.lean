/- Rows of cells, s cells an element: what reads as the cells cs, and may be written; no function of the program in it. -/
import Derived.Test.YticbnahndidplaaDoorReg
namespace Go.Proofs.YticbnahndidplaaDoor
open Go.RowKit

/-- The slice (A, n), s cells an element, reads as the cells cs, and lies in a block below B. -/
def RdC (w : World) (B : Nat) (A : Option Addr) (n s : Nat) (cs : List Value) : Prop :=
  cs.length = n * s ∧ (0 < n → ∃ b off, A = some ⟨b, off, none⟩ ∧ b < B ∧ ∀ j, j < cs.length → w.cell? ⟨b, off + j, none⟩ = cs[j]?)
/-- .. and may be written; its block is not below lo. -/
def WrC (w : World) (lo : Nat) (A : Option Addr) (n s : Nat) (cs : List Value) : Prop :=
  cs.length = n * s ∧ (0 < n → ∃ b off, A = some ⟨b, off, none⟩ ∧ lo ≤ b ∧ b < w.heap.size ∧ ∀ j, j < cs.length → w.cell? ⟨b, off + j, none⟩ = cs[j]? ∧ w.frozen? ⟨b, off + j, none⟩ = false)

section
variable {w w' : World} {B B' lo lo' hi n s : Nat} {A : Option Addr} {cs : List Value}
theorem RdC.below (h : RdC w B A n s cs) (hb : Below B w w') : RdC w' B A n s cs :=
  ⟨h.1, fun hn => by
    obtain ⟨b, off, e, hB, hc⟩ := h.2 hn
    exact ⟨b, off, e, hB, fun j hj => (hb.cell (p := ⟨b, off + j, none⟩) hB).trans (hc j hj)⟩⟩
theorem RdC.mono (h : RdC w B A n s cs) (hB' : B ≤ B') : RdC w B' A n s cs :=
  ⟨h.1, fun hn => by
    obtain ⟨b, off, e, hB, hc⟩ := h.2 hn
    exact ⟨b, off, e, by omega, hc⟩⟩
theorem WrC.rd (h : WrC w lo A n s cs) : RdC w w.heap.size A n s cs :=
  ⟨h.1, fun hn => by
    obtain ⟨b, off, e, _, hB, hc⟩ := h.2 hn
    exact ⟨b, off, e, hB, fun j hj => (hc j hj).1⟩⟩
theorem WrC.below (h : WrC w lo A n s cs) (hb : Below w.heap.size w w') : WrC w' lo A n s cs :=
  ⟨h.1, fun hn => by
    obtain ⟨b, off, e, h0, hB, hc⟩ := h.2 hn
    exact ⟨b, off, e, h0, Nat.lt_of_lt_of_le hB hb.size, fun j hj => ⟨(hb.cell (p := ⟨b, off + j, none⟩) hB).trans (hc j hj).1, (hb.frozen (p := ⟨b, off + j, none⟩) hB).trans (hc j hj).2⟩⟩⟩
theorem WrC.abv (h : WrC w lo A n s cs) (hb : Abv lo w w') : WrC w' lo A n s cs :=
  ⟨h.1, fun hn => by
    obtain ⟨b, off, e, h0, hB, hc⟩ := h.2 hn
    exact ⟨b, off, e, h0, Nat.lt_of_lt_of_le hB hb.size, fun j hj => ⟨(World.cell?_of_block (w := w) (a := ⟨b, off + j, none⟩) (hb.block b h0 hB)).trans (hc j hj).1, (World.frozen?_of_block (w := w) (a := ⟨b, off + j, none⟩) (hb.block b h0 hB)).trans (hc j hj).2⟩⟩⟩
theorem WrC.lower (h : WrC w lo A n s cs) (hl : lo' ≤ lo) : WrC w lo' A n s cs :=
  ⟨h.1, fun hn => by
    obtain ⟨b, off, e, h0, hb, hc⟩ := h.2 hn
    exact ⟨b, off, e, by omega, hb, hc⟩⟩
theorem WrC.lt (h : WrC w lo A n s cs) : Lt w.heap.size A n := by
  intro hn b hb
  obtain ⟨b', off, rfl, _, h1, _⟩ := h.2 hn
  have : b' = b := by simpa [ablk] using hb
  omega
theorem Chg.refl (lo hi : Nat) (w : World) : Chg lo hi w w := ⟨rfl, rfl, rfl, Nat.le_refl _, fun _ _ _ => rfl⟩
theorem WrC.chg {hi1 lo1 : Nat} (h : WrC w lo1 A n s cs) (hL : Lt hi1 A n) (c : Chg lo hi w w') (hd : hi1 ≤ lo ∨ hi ≤ lo1) : WrC w' lo1 A n s cs :=
  ⟨h.1, fun hn => by
    obtain ⟨b, off, e, h0, hB, hc⟩ := h.2 hn
    have hb : b < hi1 := hL hn b (by rw [e]; rfl)
    have hk := c.block b hB (by omega)
    exact ⟨b, off, e, h0, Nat.lt_of_lt_of_le hB c.size, fun j hj => ⟨(World.cell?_of_block (w := w) (a := ⟨b, off + j, none⟩) hk).trans (hc j hj).1, (World.frozen?_of_block (w := w) (a := ⟨b, off + j, none⟩) hk).trans (hc j hj).2⟩⟩⟩
theorem WrC.other {b : Nat} (h : WrC w lo A n s cs) (hg : w.grownBy w' (some b)) (hb : 0 < n → ablk A ≠ some b) : WrC w' lo A n s cs :=
  ⟨h.1, fun hn => by
    obtain ⟨b', off, e, h0, hB, hc⟩ := h.2 hn
    have hne : some b' ≠ some b := by
      have := hb hn
      rw [e] at this
      exact this
    exact ⟨b', off, e, h0, Nat.lt_of_lt_of_le hB hg.size, fun j hj => ⟨(World.cell?_of_block (hg.block b' hB hne)).trans (hc j hj).1, (World.frozen?_of_block (hg.block b' hB hne)).trans (hc j hj).2⟩⟩⟩
/-- one cell is stored -/
theorem WrC.put {b o i : Nat} (h : WrC w lo (some ⟨b, o, none⟩) n s cs) (hi : i < cs.length) (v : Value) : WrC (w.setCell ⟨b, o + i, none⟩ v) lo (some ⟨b, o, none⟩) n s (cs.set i v) :=
  ⟨by simp [h.1], fun hn => by
    obtain ⟨b', off, e, h0, hB, hc⟩ := h.2 hn
    injection e with e
    injection e with e1 e2
    subst e1
    subst e2
    refine ⟨b, o, rfl, h0, by simpa [World.setCell] using hB, fun j hj => ?_⟩
    rw [List.length_set] at hj
    obtain ⟨c1, c2⟩ := hc j hj
    refine ⟨?_, by simpa using c2⟩
    rw [List.getElem?_set]
    by_cases e : i = j
    · subst e
      obtain ⟨u, hu⟩ : ∃ u, cs[i]? = some u := ⟨cs[i], List.getElem?_eq_getElem hi⟩
      rw [hu] at c1
      rw [World.cell?_setCell_same w _ _ c1, if_pos rfl, if_pos hi]
    · rw [World.cell?_setCell_other w _ _ _ (fun h => e (by injection h with _ h2; omega)), c1, if_neg e]⟩
theorem WrC.at {b o j : Nat} (h : WrC w lo (some ⟨b, o, none⟩) n s cs) (hn : 0 < n) (hj : j < cs.length) : w.cell? ⟨b, o + j, none⟩ = cs[j]? ∧ w.frozen? ⟨b, o + j, none⟩ = false := by
  obtain ⟨b', o', e, _, _, hc⟩ := h.2 hn
  injection e with e
  injection e with e1 e2
  subst e1
  subst e2
  exact hc j hj
theorem own_wrC {base : Nat} {e : TypeId} {v : Value} (h : w.ownsRow base e s v n cs) : ∃ A c, v = .slice A n c ∧ WrC w base A n s cs := by
  have hl : cs.length = n * s := h.1
  rcases h.2 with ⟨rfl, rfl⟩ | ⟨g, cap, cur, rfl, hb, hg, hnc, hm, hsz, htake⟩
  · exact ⟨none, 0, rfl, hl, fun h => absurd h (by omega)⟩
  · refine ⟨_, cap, rfl, hl, fun hn => ⟨g, 0, rfl, hb, (h.lt g rfl).2, fun j hj => ⟨?_, frozen_of_row hg _⟩⟩⟩
    rw [cell_of_row _ _ _ _ _ _ hg, Nat.zero_add, ← htake, List.getElem?_take, if_pos (by omega), ← Array.getElem?_toList]
end

/-- records of s cells each, one behind the other -/
theorem flat_len {α : Type} {enc : α → List Value} {s : Nat} (hs : ∀ x, (enc x).length = s) (xs : List α) : (xs.flatMap enc).length = xs.length * s := by
  induction xs with
  | nil => simp
  | cons x xs ih => simp only [List.flatMap_cons, List.length_append, hs, ih, List.length_cons]; rw [Nat.add_mul, Nat.one_mul, Nat.add_comm]
theorem flat_at {α : Type} {enc : α → List Value} {s : Nat} (hs : ∀ x, (enc x).length = s) (xs : List α) (k j : Nat) (hk : k < xs.length) (hj : j < s) : (xs.flatMap enc)[k * s + j]? = (enc xs[k])[j]? := by
  induction xs generalizing k with
  | nil => simp at hk
  | cons x xs ih =>
    rw [List.flatMap_cons]
    cases k with
    | zero => rw [Nat.zero_mul, Nat.zero_add, List.getElem?_append_left (by rw [hs]; exact hj)]; rfl
    | succ k =>
      rw [List.getElem?_append_right (by rw [hs, Nat.add_mul]; omega), hs, show (k + 1) * s + j - s = k * s + j by rw [Nat.add_mul, Nat.one_mul]; omega]
      exact ih k (by simpa using hk)

/-- some cells, one behind the other, are stored -/
def putC (w : World) (b : Nat) : Nat → List Value → World
  | _, [] => w
  | o, v :: vs => putC (w.setCell ⟨b, o, none⟩ v) b (o + 1) vs
theorem putC_frozen (vs : List Value) : ∀ (w : World) (b o : Nat) (a : Addr), (putC w b o vs).frozen? a = w.frozen? a := by
  induction vs with
  | nil => intro w b o a; rfl
  | cons v vs ih => intro w b o a; rw [putC, ih]; simp
theorem putC_other (vs : List Value) : ∀ (w : World) (b o : Nat) (c : Nat), (c < o ∨ o + vs.length ≤ c) → (putC w b o vs).cell? ⟨b, c, none⟩ = w.cell? ⟨b, c, none⟩ := by
  induction vs with
  | nil => intro w b o c _; rfl
  | cons v vs ih =>
    intro w b o c h
    rw [List.length_cons] at h
    rw [putC, ih _ _ _ _ (by omega), World.cell?_setCell_other w _ _ _ (fun e => by injection e with _ e; omega)]
theorem putC_at (vs : List Value) : ∀ (w : World) (b o j : Nat), j < vs.length → (∀ i, i < vs.length → ∃ u, w.cell? ⟨b, o + i, none⟩ = some u) → (putC w b o vs).cell? ⟨b, o + j, none⟩ = vs[j]? := by
  induction vs with
  | nil => intro w b o j h; simp at h
  | cons v vs ih =>
    intro w b o j h hu
    rw [List.length_cons] at h hu
    rw [putC]
    cases j with
    | zero =>
      rw [putC_other _ _ _ _ _ (by omega)]
      obtain ⟨u, h0⟩ := hu 0 (by omega)
      rw [Nat.add_zero] at h0 ⊢
      rw [World.cell?_setCell_same w _ _ h0]
      rfl
    | succ j =>
      rw [show o + (j + 1) = o + 1 + j by omega, ih _ _ _ _ (by omega)]
      · rfl
      · intro i hi
        obtain ⟨u, h1⟩ := hu (i + 1) (by omega)
        refine ⟨u, ?_⟩
        rw [World.cell?_setCell_other w _ _ _ (fun e => by injection e with _ e; omega), show o + 1 + i = o + (i + 1) by omega]
        exact h1
theorem putC_gb (vs : List Value) : ∀ (w : World) (b o : Nat), w.grownBy (putC w b o vs) (some b) := by
  induction vs with
  | nil => intro w b o; exact World.grownBy.refl _ _
  | cons v vs ih => intro w b o; exact (gb_setCell w ⟨b, o, none⟩ v).trans (ih _ _ _)
theorem putC_size (vs : List Value) : ∀ (w : World) (b o : Nat), (putC w b o vs).heap.size = w.heap.size := by
  induction vs with
  | nil => intro w b o; rfl
  | cons v vs ih => intro w b o; rw [putC, ih]; simp [World.setCell]

/-- A row of records of which the first k have been overwritten by f, the others are g. -/
def HalfR {α : Type} (enc : α → List Value) (s n b o : Nat) (f g : Nat → α) (k : Nat) (w : World) : Prop :=
  ∀ j, j < n → ∀ i, i < s → w.cell? ⟨b, o + j * s + i, none⟩ = (enc (if j < k then f j else g j))[i]? ∧ w.frozen? ⟨b, o + j * s + i, none⟩ = false
theorem HalfR.step {α : Type} {enc : α → List Value} {s n b o : Nat} {f g : Nat → α} {k : Nat} {w : World} (hs : ∀ x, (enc x).length = s) (h : HalfR enc s n b o f g k w) (hk : k < n) (vs : List Value) (hv : vs = enc (f k)) :
    HalfR enc s n b o f g (k + 1) (putC w b (o + k * s) vs) := by
  subst hv
  intro j hj i hi
  obtain ⟨h1, h2⟩ := h j hj i hi
  refine ⟨?_, by rw [putC_frozen]; exact h2⟩
  by_cases e : j = k
  · subst e
    rw [putC_at _ _ _ _ _ (by rw [hs]; exact hi), if_pos (by omega)]
    intro i' hi'
    rw [hs] at hi'
    rw [(h j hj i' hi').1]
    exact ⟨_, List.getElem?_eq_getElem (by rw [hs]; exact hi')⟩
  · have hne : j * s + i < k * s ∨ k * s + s ≤ j * s + i := by
      rcases Nat.lt_or_gt_of_ne e with h3 | h3
      · left
        have := Nat.mul_le_mul_right s (show j + 1 ≤ k by omega)
        rw [Nat.add_mul, Nat.one_mul] at this
        omega
      · right
        have := Nat.mul_le_mul_right s (show k + 1 ≤ j by omega)
        rw [Nat.add_mul, Nat.one_mul] at this
        omega
    rw [putC_other _ _ _ _ _ (by rw [hs]; omega), h1]
    by_cases h3 : j < k
    · rw [if_pos h3, if_pos (by omega)]
    · rw [if_neg h3, if_neg (by omega)]
theorem HalfR.done {α : Type} {enc : α → List Value} {s n b o base : Nat} {f g : Nat → α} {ys : List α} {w : World} (hs : ∀ x, (enc x).length = s) (h : HalfR enc s n b o f g n w) (hl : ys.length = n) (hy : ∀ j (hj : j < ys.length), ys[j] = f j) (h0 : base ≤ b) (hb : b < w.heap.size) :
    WrC w base (some ⟨b, o, none⟩) n s (ys.flatMap enc) :=
  ⟨by rw [flat_len hs, hl], fun hn => ⟨b, o, rfl, h0, hb, fun c hc => by
    rw [flat_len hs, hl] at hc
    have h0s : 0 < s := Nat.pos_of_ne_zero (fun e => by subst e; simp at hc)
    have hq : c / s < n := by rw [Nat.div_lt_iff_lt_mul h0s]; exact hc
    have hm : c % s < s := Nat.mod_lt _ h0s
    obtain ⟨h1, h2⟩ := h (c / s) hq (c % s) hm
    have e : c / s * s + c % s = c := Nat.div_add_mod' c s
    rw [Nat.add_assoc, e] at h1 h2
    refine ⟨?_, h2⟩
    rw [h1, if_pos hq]
    have h3 := flat_at hs ys (c / s) (c % s) (by omega) hm
    rw [e, hy] at h3
    exact h3.symm⟩⟩
theorem HalfR.new {α : Type} {enc : α → List Value} {s : Nat} (hs : ∀ x, (enc x).length = s) (w : World) (n : Nat) (f : Nat → α) (z : α) (E : TypeId) (vc : Array Value) (hv : vc.toList = enc z) (m : Nat) (hm : m = n * s) (h0 : 0 < s) :
    HalfR enc s n w.heap.size 0 f (fun _ => z) 0 (w.alloc (.cells (madeCells vc m) E)) := by
  subst hm
  intro j hj i hi
  have h : (w.alloc (.cells (madeCells vc (n * s)) E)).heap[w.heap.size]? = some (.cells (madeCells vc (n * s)) E (0, 0)) := heap_alloc_new w _
  refine ⟨?_, frozen_of_row h _⟩
  rw [cell_of_row _ _ _ _ _ _ h]
  have hc : vc.size = s := by rw [← Array.length_toList, hv, hs]
  have hlt : j * s + i < n * s := by
    have := Nat.mul_le_mul_right s (show j + 1 ≤ n by omega)
    rw [Nat.add_mul, Nat.one_mul] at this
    omega
  have hmod : (j * s + i) % s = i := by rw [Nat.add_comm, Nat.add_mul_mod_self_right, Nat.mod_eq_of_lt hi]
  rw [if_neg (by omega), ← hv]
  simp [madeCells, hlt, hc, hmod, hi]
/-- for every index below n there is one: a list of them -/
theorem list_of {α : Type} {R : Nat → α → Prop} (n : Nat) (h : ∀ i, i < n → ∃ x, R i x) : ∃ xs : List α, xs.length = n ∧ ∀ i (hi : i < xs.length), R i xs[i] := by
  induction n with
  | zero => exact ⟨[], rfl, fun i hi => absurd hi (by simp)⟩
  | succ n ih =>
    obtain ⟨xs, hl, hx⟩ := ih (fun i hi => h i (by omega))
    obtain ⟨x, hx'⟩ := h n (by omega)
    refine ⟨xs ++ [x], by simp [hl], fun i hi => ?_⟩
    rw [List.getElem_append]
    split
    · exact hx i _
    · rename_i h3
      rw [List.length_append, List.length_singleton, hl] at hi
      obtain rfl : i = n := by omega
      simpa using hx'
/-- what a cell of an argument holds -/
def gInt (v : Value) : Prop := ∃ q, v = .int .i64 q ∧ (Lit.int .i64 q).wf = true
def gBool (v : Value) : Prop := ∃ q, v = .bool q
def gStr (v : Value) : Prop := ∃ q : ByteArray, v = .string q ∧ q.size ≤ maxLen
/-- A slice of structs that came in: nil, or 'cap' records of cells. -/
def IsCells (goods : List (Value → Prop)) (w : World) (a : Option Addr) (len cap : Nat) : Prop :=
  (a = none ∧ len = 0 ∧ cap = 0) ∨
  ∃ x, a = some x ∧ len ≤ cap ∧ cap ≤ maxLen ∧ ∀ i, i < cap → ∀ j g, goods[j]? = some g → ∃ v, w.cell? (x.add (i * goods.length + j)) = some v ∧ g v
theorem IsCells.len {goods : List (Value → Prop)} {w : World} {a : Option Addr} {len cap : Nat} (h : IsCells goods w a len cap) : len ≤ maxLen := by
  rcases h with ⟨_, rfl, _⟩ | ⟨x, _, hl, hm, _⟩
  · exact Nat.zero_le _
  · omega
/-- the records that a slice holds that came in -/
theorem IsCells.recs {α : Type} {enc : α → List Value} {goods : List (Value → Prop)} {w : World} {a : Option Addr} {len cap : Nat} (h : IsCells goods w a len cap) (ok : α → Prop) (h0 : 0 < goods.length)
    (hs : ∀ x, (enc x).length = goods.length) (hv : ∀ vs : List Value, vs.length = goods.length → (∀ j (hj : j < vs.length) g, goods[j]? = some g → g vs[j]) → ∃ x, enc x = vs ∧ ok x) :
    ∃ xs : List α, RdC w w.heap.size a len goods.length (xs.flatMap enc) ∧ xs.length = len ∧ ∀ x ∈ xs, ok x := by
  rcases h with ⟨rfl, rfl, rfl⟩ | ⟨x, rfl, hl, hm, hc⟩
  · exact ⟨[], ⟨by simp, fun h => absurd h (by omega)⟩, rfl, by simp⟩
  · have h1 : ∀ i, i < len → ∃ y, ok y ∧ ∀ j, j < goods.length → w.cell? (x.add (i * goods.length + j)) = (enc y)[j]? := by
      intro i hi
      obtain ⟨vs, hvl, hvs⟩ := list_of (R := fun j v => w.cell? (x.add (i * goods.length + j)) = some v ∧ ∀ g, goods[j]? = some g → g v) goods.length (by
        intro j hj
        obtain ⟨v, h1, h2⟩ := hc i (by omega) j _ (List.getElem?_eq_getElem hj)
        exact ⟨v, h1, fun g hg => by rw [List.getElem?_eq_getElem hj] at hg; injection hg with hg; subst hg; exact h2⟩)
      obtain ⟨y, hy, hk⟩ := hv vs hvl (fun j hj g hg => (hvs j hj).2 g hg)
      refine ⟨y, hk, fun j hj => ?_⟩
      rw [hy, (hvs j (by omega)).1, List.getElem?_eq_getElem (by omega)]
    obtain ⟨xs, hxl, hxs⟩ := list_of len h1
    refine ⟨xs, ⟨by rw [flat_len hs, hxl], fun hn => ?_⟩, hxl, fun y hy => ?_⟩
    · have c0 := (hxs 0 (by omega)).2 0 h0
      rw [List.getElem?_eq_getElem (by rw [hs]; exact h0)] at c0
      obtain ⟨b, off, spot⟩ := x
      have hspot : spot = none := by simpa [Addr.add] using World.cell?_spot c0
      subst hspot
      have hb := World.block_lt_of_cell? _ _ c0
      refine ⟨b, off, rfl, by simpa [Addr.add] using hb, fun c hcc => ?_⟩
      rw [flat_len hs, hxl] at hcc
      have hq : c / goods.length < len := by rw [Nat.div_lt_iff_lt_mul h0]; exact hcc
      have hm' : c % goods.length < goods.length := Nat.mod_lt _ h0
      have e : c / goods.length * goods.length + c % goods.length = c := Nat.div_add_mod' c _
      have h3 := (hxs (c / goods.length) (by omega)).2 (c % goods.length) hm'
      have h4 := flat_at hs xs (c / goods.length) (c % goods.length) (by omega) hm'
      rw [e] at h3 h4
      rw [addr_add] at h3
      rw [h3, h4]
    · obtain ⟨i, hi, rfl⟩ := List.getElem_of_mem hy
      exact (hxs i hi).1

end Go.Proofs.YticbnahndidplaaDoor
