/- Rows of pairs of numbers: '[]int64{a, b}' appended to a row of slices. -/
import Derived.Test.YthjcpgabdlfojaaOwnS
namespace Go.Proofs.Ythjcpgabdlfojaa
open Go.RowKit

theorem info_sl : (Try.prog.info? 24).map (fun i => (i.zero, i.size, i.bytes)) = some (some (.slice none 0 0), 1, 24) := by kernel_rfl

/-- 'out = append(out, u)' onto a row of slices of the call's own -/
theorem wpl_appV {ops : Array Oper} {rest : List Oper} {o : Oper} {a : Act} {Q : Exit → Act → World → Prop} (hgd : o.guard = none) (s x : Operand)
    (ho : o.op = .call { callee := .builtin .append, args := #[s, x], argTypes := #[32, 32] }) (W : World) (base n g : Nat) (v : Value) (vs : List Value) (u : Value) (hgz : W.heap.size = g)
    (hs : a.eval s = v) (hown : W.ownsRow base 24 1 v n vs) (hx : a.eval x = .slice (some ⟨g, 0, none⟩) 1 1) (hu : u.oneCell' = true) (hn : n ≤ 1048576) (hbase : base ≤ W.heap.size)
    (h : ∀ v' w', w'.ownsRow base 24 1 v' (n + 1) (vs ++ [u]) → (W.alloc (.cells #[u] 24)).grownBy w' v.ownBlock → wpList Try.prog ops Q rest (a.put o.dst v') w') :
    wpList Try.prog ops Q (o :: rest) a (W.alloc (.cells #[u] 24)) := by
  subst hgz
  obtain ⟨i0, hi, hz0, hz1, hz2⟩ := info_parts info_sl
  refine wpList_append_own (P := Try.prog) _ hgd s x 32 ho base 24 i0 (.slice none 0 0) 1 24 Try.underlying32 hi hz0 hz1 hz2 rfl (by decide) v n vs hs (hown.alloc _) ⟨W.heap.size, 0, none⟩ 1 1 [u] hx rfl ?_ ?_ (by simp only [maxLen]; omega) (by omega) (by simp; omega) ?_
  · intro j y hj
    cases j with
    | zero => simp at hj; subst hj; simp [Addr.add]
    | succ j => simp at hj
  · intro y hy
    simp at hy
    subst hy
    exact hu
  · intro v' w' h1 h2 _
    exact h v' w' (by simpa using h1) h2

def sl2 (g : Nat) : Value := .slice (some ⟨g, 0, none⟩) 2 2
def pcell (p : Nat × Nat) : Obj := .cells #[.int .i64 (p.1 : Int), .int .i64 (p.2 : Int)] 2 (0, 0)
/-- the blocks gs hold the pairs ps -/
structure Prs (W : World) (base : Nat) (gs : List Nat) (ps : List (Nat × Nat)) : Prop where
  len : gs.length = ps.length
  at' : ∀ j, j < ps.length → base ≤ gs.getD j 0 ∧ W.heap[gs.getD j 0]? = some (pcell (ps.getD j (0, 0)))
  ord : ∀ i j, i < j → j < ps.length → gs.getD i 0 < gs.getD j 0
theorem Prs.lt {W : World} {base : Nat} {gs : List Nat} {ps : List (Nat × Nat)} (h : Prs W base gs ps) {j : Nat} (hj : j < ps.length) : gs.getD j 0 < W.heap.size := (Array.getElem?_eq_some_iff.1 (h.at' j hj).2).1
theorem Prs.cell {W : World} {base : Nat} {gs : List Nat} {ps : List (Nat × Nat)} (h : Prs W base gs ps) {j : Nat} (hj : j < ps.length) :
    W.cell? ⟨gs.getD j 0, 0, none⟩ = some (.int .i64 ((ps.getD j (0, 0)).1 : Int)) ∧ W.cell? ⟨gs.getD j 0, 1, none⟩ = some (.int .i64 ((ps.getD j (0, 0)).2 : Int)) ∧ ∀ o, W.frozen? ⟨gs.getD j 0, o, none⟩ = false := by
  have hb := (h.at' j hj).2
  unfold pcell at hb
  exact ⟨by rw [cell_of_row _ _ _ _ _ _ hb]; rfl, by rw [cell_of_row _ _ _ _ _ _ hb]; rfl, fun o => frozen_of_row hb o⟩
theorem Prs.rd {W : World} {base : Nat} {gs : List Nat} {ps : List (Nat × Nat)} (h : Prs W base gs ps) {j : Nat} (hj : j < ps.length) :
    Rd W W.heap.size (some ⟨gs.getD j 0, 0, none⟩) 2 [((ps.getD j (0, 0)).1 : Int), ((ps.getD j (0, 0)).2 : Int)] := by
  refine ⟨rfl, fun _ => ⟨_, 0, rfl, h.lt hj, fun i hi => ?_⟩⟩
  obtain ⟨c0, c1, _⟩ := h.cell hj
  match i, hi with
  | 0, _ => exact c0
  | 1, _ => exact c1
theorem Prs.grown {W W' : World} {base : Nat} {gs : List Nat} {ps : List (Nat × Nat)} (h : Prs W base gs ps) {r : Option Nat} (hg : W.grownBy W' r) (hr : ∀ j, j < ps.length → some (gs.getD j 0) ≠ r) : Prs W' base gs ps :=
  ⟨h.len, fun j hj => ⟨(h.at' j hj).1, (hg.block _ (h.lt hj) (hr j hj)).trans (h.at' j hj).2⟩, h.ord⟩
theorem Prs.below {W W' : World} {base : Nat} {gs : List Nat} {ps : List (Nat × Nat)} (h : Prs W base gs ps) (hb : Below W.heap.size W W') : Prs W' base gs ps :=
  ⟨h.len, fun j hj => ⟨(h.at' j hj).1, (hb.block _ (h.lt hj)).trans (h.at' j hj).2⟩, h.ord⟩
/-- a pair's block is not a row of slices -/
theorem Prs.ne {W : World} {base base' n : Nat} {gs : List Nat} {ps : List (Nat × Nat)} {v : Value} {vs : List Value} (h : Prs W base gs ps) (ho : W.ownsRow base' 24 1 v n vs) (j : Nat) (hj : j < ps.length) : some (gs.getD j 0) ≠ v.ownBlock := by
  rcases ho.2 with ⟨rfl, _⟩ | ⟨g, cap, cur, rfl, _, hgb, _⟩
  · simp [Value.ownBlock]
  · intro e'
    have e : gs.getD j 0 = g := by simpa [Value.ownBlock] using e'
    have h2 := (h.at' j hj).2
    rw [e, hgb] at h2
    unfold pcell at h2
    injection h2 with h2
    injection h2 with _ h3 _
    exact absurd h3 (by decide)
theorem getD_snoc {α : Type} (xs : List α) (y d : α) (j : Nat) : (xs ++ [y]).getD j d = if j < xs.length then xs.getD j d else if j = xs.length then y else d := by
  by_cases h : j < xs.length
  · rw [if_pos h]; simp [List.getD_eq_getElem?_getD, List.getElem?_append_left h]
  · rw [if_neg h]
    by_cases e : j = xs.length
    · subst e; simp [List.getD_eq_getElem?_getD]
    · rw [if_neg e]
      simp [List.getD_eq_getElem?_getD, List.getElem?_eq_none (show (xs ++ [y]).length ≤ j by simp; omega)]
theorem own_sl {w : World} {B size n : Nat} {e : TypeId} {v : Value} {xs : List Value} (h : w.ownsRow B e size v n xs) : ∃ A c, v = .slice A n c := by
  rcases h.2 with ⟨rfl, rfl⟩ | ⟨g, cap, cur, rfl, _⟩
  · exact ⟨none, 0, rfl⟩
  · exact ⟨_, cap, rfl⟩
theorem own_vals {w : World} {B n c : Nat} {e : TypeId} {A : Option Addr} {vs : List Value} (h : w.ownsRow B e 1 (.slice A n c) n vs) : 0 < n → ∃ g, A = some ⟨g, 0, none⟩ ∧ ∀ j, j < n → w.cell? ⟨g, j, none⟩ = vs[j]? := by
  intro hn
  rcases h.2 with ⟨e1, e2⟩ | ⟨g, cap, cur, e1, hb, hg, hnc, hm, hsz, htake⟩
  · omega
  · injection e1 with e1 _ _
    refine ⟨g, e1, fun j hj => ?_⟩
    rw [cell_of_row _ _ _ _ _ _ hg, ← htake, List.getElem?_take, if_pos (by omega), Array.getElem?_toList]
/-- one pair more -/
theorem prs_app {W w' : World} {base n : Nat} {v : Value} {gs : List Nat} {ps : List (Nat × Nat)} (a b : Nat) (h : Prs W base gs ps) (ho : W.ownsRow base 24 1 v n (gs.map sl2)) (hb : base ≤ W.heap.size)
    (hg : ((W.alloc (pcell (a, b))).alloc (.cells #[sl2 W.heap.size] 24)).grownBy w' v.ownBlock) : Prs w' base (gs ++ [W.heap.size]) (ps ++ [(a, b)]) ∧ Below base W w' := by
  have h1 : Prs (W.alloc (pcell (a, b))) base (gs ++ [W.heap.size]) (ps ++ [(a, b)]) := by
    refine ⟨by simp [h.len], fun j hj => ?_, fun i j hij hj => ?_⟩
    · rw [getD_snoc, getD_snoc, h.len]
      simp only [List.length_append, List.length_singleton] at hj
      by_cases hlt : j < ps.length
      · rw [if_pos hlt, if_pos hlt]
        exact ⟨(h.at' j hlt).1, (Below.heap_alloc W _ _ (h.lt hlt)).trans (h.at' j hlt).2⟩
      · obtain rfl : j = ps.length := by omega
        rw [if_neg hlt, if_neg hlt, if_pos rfl, if_pos rfl]
        exact ⟨hb, heap_alloc_new W _⟩
    · simp only [List.length_append, List.length_singleton] at hj
      rw [getD_snoc, getD_snoc, h.len, if_pos (show i < ps.length by omega)]
      by_cases hlt : j < ps.length
      · rw [if_pos hlt]; exact h.ord i j hij hlt
      · rw [if_neg hlt, if_pos (by omega)]; exact h.lt (by omega)
  have ho1 := ho.alloc (pcell (a, b))
  have h2 : Prs ((W.alloc (pcell (a, b))).alloc (.cells #[sl2 W.heap.size] 24)) base (gs ++ [W.heap.size]) (ps ++ [(a, b)]) := h1.below ((Below.refl _ _).alloc (Nat.le_refl _) _)
  have ho2 := ho1.alloc (.cells #[sl2 W.heap.size] 24)
  refine ⟨h2.grown hg (fun j hj => h2.ne ho2 j hj), ?_⟩
  exact (((Below.refl base W).alloc hb _).alloc (by simp; omega) _).grown hg (by simp; omega) (fun k hk => (ho.lt k hk).1)

theorem own_mono' {w : World} {base base' : Nat} {e : TypeId} {size : Nat} {v : Value} {n : Nat} {xs : List Value} (h : w.ownsRow base e size v n xs) (hb : base' ≤ base) : w.ownsRow base' e size v n xs :=
  ⟨h.1, h.2.imp id (fun ⟨g, cap, cur, e, hg, r⟩ => ⟨g, cap, cur, e, Nat.le_trans hb hg, r⟩)⟩
theorem Prs.mono {W : World} {base base' : Nat} {gs : List Nat} {ps : List (Nat × Nat)} (h : Prs W base gs ps) (hb : base' ≤ base) : Prs W base' gs ps :=
  ⟨h.len, fun j hj => ⟨Nat.le_trans hb (h.at' j hj).1, (h.at' j hj).2⟩, h.ord⟩

def flp (le : Int) (ps : List (Nat × Nat)) : List (Nat × Nat) := ps.filter fun p => decide (le ≤ (p.2 : Int))
theorem flp_yes {le : Int} {ps : List (Nat × Nat)} {p : Nat × Nat} (h : le ≤ (p.2 : Int)) : flp le (ps ++ [p]) = flp le ps ++ [p] := by simp [flp, h]
theorem flp_no {le : Int} {ps : List (Nat × Nat)} {p : Nat × Nat} (h : ¬ le ≤ (p.2 : Int)) : flp le (ps ++ [p]) = flp le ps := by
  have h' : ¬ (le ≤ (p.2 : Int)) := h
  simp [flp, h']
theorem flp_len (le : Int) (ps : List (Nat × Nat)) : (flp le ps).length ≤ ps.length := List.length_filter_le _ _

theorem prs_put {W : World} {base g : Nat} {gs : List Nat} {ps : List (Nat × Nat)} {p : Nat × Nat} (h : Prs W base gs ps) (hb : base ≤ g) (hg : W.heap[g]? = some (pcell p)) (hlt : ∀ t, t < ps.length → gs.getD t 0 < g) : Prs W base (gs ++ [g]) (ps ++ [p]) := by
  refine ⟨by simp [h.len], fun j hj => ?_, fun i j hij hj => ?_⟩
  · rw [getD_snoc, getD_snoc, h.len]
    simp only [List.length_append, List.length_singleton] at hj
    by_cases hl : j < ps.length
    · rw [if_pos hl, if_pos hl]; exact h.at' j hl
    · obtain rfl : j = ps.length := by omega
      rw [if_neg hl, if_neg hl, if_pos rfl, if_pos rfl]
      exact ⟨hb, hg⟩
  · simp only [List.length_append, List.length_singleton] at hj
    rw [getD_snoc, getD_snoc, h.len, if_pos (show i < ps.length by omega)]
    by_cases hl : j < ps.length
    · rw [if_pos hl]; exact h.ord i j hij hl
    · rw [if_neg hl, if_pos (by omega)]; exact hlt i (by omega)

end Go.Proofs.Ythjcpgabdlfojaa
