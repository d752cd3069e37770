/- Arrays of bools in a block; a row of numbers of which the last one is taken away; append, and where the row lies. -/
import Derived.Test.YthnioohiceohkaaPoolP
import Derived.Test.YthnioohiceohkaaWay
import Derived.Deep.WholeRow
import Derived.Deep.AppendLies
namespace Go.Proofs.Ythnioohiceohkaa
open Go.RowKit

def bcs (M : Nat → Bool) : Array Value := ((List.range 144).map fun k => Value.bool (M k)).toArray
theorem bcs_size (M : Nat → Bool) : (bcs M).size = 144 := by simp [bcs]
theorem bcs_at {M : Nat → Bool} {k : Nat} (h : k < 144) : (bcs M)[k]? = some (.bool (M k)) := by simp [bcs, h]
theorem bcs_one (M : Nat → Bool) : (bcs M).all (·.oneCell') = true := by
  rw [Array.all_eq_true_iff_forall_mem]
  intro v hv
  simp [bcs] at hv
  obtain ⟨k, _, rfl⟩ := hv
  rfl
theorem bcs_congr {M R : Nat → Bool} (h : ∀ k, M k = R k) : bcs M = bcs R := by rw [show M = R from funext h]
theorem bcs_set {M : Nat → Bool} {k : Nat} (h : k < 144) : (bcs M).setIfInBounds k (.bool true) = bcs (fun j => M j || j == k) := by
  apply Array.ext
  · simp [bcs]
  · intro i h1 h2
    rw [bcs_size] at h2
    have e1 : (bcs fun j => M j || j == k)[i]? = some (.bool (M i || i == k)) := bcs_at h2
    have e0 : (bcs M)[i]? = some (.bool (M i)) := bcs_at h2
    have : ((bcs M).setIfInBounds k (.bool true))[i]? = (bcs fun j => M j || j == k)[i]? := by
      rw [e1, Array.getElem?_setIfInBounds]
      by_cases e : k = i
      · subst e; simp [bcs_size, h]
      · have e' : (i == k) = false := by simpa using fun g => e g.symm
        rw [if_neg e, e0, e']; simp
    rw [Array.getElem?_eq_getElem h1, Array.getElem?_eq_getElem (by rw [bcs_size]; exact h2)] at this
    exact Option.some.inj this
/-- 144 bools lie in block g -/
def IsB (w : World) (g : Nat) (M : Nat → Bool) : Prop := w.heap[g]? = some (.cells (bcs M) 66 (0, 0))
theorem IsB.cell {w : World} {g k : Nat} {M : Nat → Bool} (h : IsB w g M) (hk : k < 144) : w.cell? ⟨g, k, none⟩ = some (.bool (M k)) := by
  rw [cell_of_row _ _ _ _ _ _ h]; exact bcs_at hk
theorem IsB.fz {w : World} {g : Nat} {M : Nat → Bool} (h : IsB w g M) (k : Nat) : w.frozen? ⟨g, k, none⟩ = false := frozen_of_row h k
theorem IsB.lt {w : World} {g : Nat} {M : Nat → Bool} (h : IsB w g M) : g < w.heap.size := by
  rcases Nat.lt_or_ge g w.heap.size with h1 | h1
  · exact h1
  · unfold IsB at h; rw [Array.getElem?_eq_none h1] at h; cases h
theorem IsB.below {w w' : World} {B g : Nat} {M : Nat → Bool} (h : IsB w g M) (hb : Below B w w') (hg : g < B) : IsB w' g M := (hb.block g hg).trans h
theorem IsB.set {w : World} {g k : Nat} {M : Nat → Bool} (h : IsB w g M) (hk : k < 144) : IsB (w.setCell ⟨g, k, none⟩ (.bool true)) g (fun j => M j || j == k) := by
  have := heap_setCell_same w g k _ _ (.bool true) h
  rw [bcs_set hk] at this
  exact this
theorem IsB.other {w : World} {a : Addr} {g : Nat} {M : Nat → Bool} (h : IsB w g M) (ha : g ≠ a.block) (v : Value) : IsB (w.setCell a v) g M := (heap_setCell_other w a g v ha).trans h
theorem IsB.grown {w w' : World} {g : Nat} {M : Nat → Bool} (h : IsB w g M) {r : Option Nat} (hg : w.grownBy w' r) (hr : some g ≠ r) : IsB w' g M := (hg.block g h.lt hr).trans h
theorem IsB.alloc {w : World} {g : Nat} {M : Nat → Bool} (h : IsB w g M) (o : Obj) : IsB (w.alloc o) g M := (Below.heap_alloc _ _ _ h.lt).trans h
theorem IsB.new (w : World) (M : Nat → Bool) : IsB (w.alloc (.cells (bcs M) 66)) w.heap.size M := heap_alloc_new w _
theorem IsB.congr {w : World} {g : Nat} {M R : Nat → Bool} (h : IsB w g M) (e : ∀ k, M k = R k) : IsB w g R := by rw [← show M = R from funext e]; exact h

def tru : Option Value → Bool
  | some (.bool b) => b
  | _ => false
/-- how many of the first n bools of block g are set -/
def cntW (w : World) (g n : Nat) : Nat := cnt (fun k => tru (w.cell? ⟨g, k, none⟩)) n
theorem IsB.cnt {w : World} {g n : Nat} {M : Nat → Bool} (h : IsB w g M) (hn : n ≤ 144) : cntW w g n = cnt M n := cnt_congr fun k hk => by rw [h.cell (by omega)]; rfl
def slLen : Value → Nat
  | .slice _ n _ => n
  | _ => 0

/-- a row of the call's own without its last number -/
theorem owns_pop {w : World} {base : Nat} {e : TypeId} {v x : Value} {m : Nat} {xs : List Value} (h : w.ownsRow base e 1 v (m + 1) (xs ++ [x])) :
    ∃ g cap, v = .slice (some ⟨g, 0, none⟩) (m + 1) cap ∧ m + 1 ≤ cap ∧ cap ≤ maxLen ∧ base ≤ g ∧ g < w.heap.size ∧ w.cell? ⟨g, m, none⟩ = some x ∧ w.ownsRow base e 1 (.slice (some ⟨g, 0, none⟩) m cap) m xs := by
  have hl := h.1
  simp at hl
  rcases h.2 with ⟨_, h0⟩ | ⟨g, cap, cur, rfl, hb, hg, hnc, hm, hsz, htake⟩
  · omega
  · refine ⟨g, cap, rfl, hnc, hm, hb, (h.lt g rfl).2, ?_, by simp; omega, .inr ⟨g, cap, cur, rfl, hb, hg, by omega, hm, hsz, ?_⟩⟩
    · rw [cell_of_row _ _ _ _ _ _ hg]
      have h1 : (cur.toList.take ((m + 1) * 1))[m]? = (xs ++ [x])[m]? := by rw [htake]
      rw [List.getElem?_take, if_pos (by omega), List.getElem?_append_right (by omega), show m - xs.length = 0 by omega] at h1
      rw [← Array.getElem?_toList, h1]
      rfl
    · have h1 : (cur.toList.take ((m + 1) * 1)).take (m * 1) = (xs ++ [x]).take (m * 1) := by rw [htake]
      rw [List.take_take, Nat.min_eq_left (by omega)] at h1
      rw [h1, Nat.mul_one, List.take_append_of_le_length (by omega), List.take_of_length_le (by omega)]

theorem wpLies1 {o : Oper} {a : Act} {K : Act → World → Prop} {Q : Exit → Act → World → Prop} (s x : Operand)
    (ho : o.op = .call { callee := .builtin .append, args := #[s, x], argTypes := #[22, 22] }) (W : World) (base n : Nat) (v : Value) (xs : List Int) (y : Int)
    (hs : a.eval s = v) (hown : W.ownsRow base 2 1 v n (xs.map (Value.int .i64))) (hx : a.eval x = .slice (some ⟨W.heap.size, 0, none⟩) 1 1) (hn : n ≤ 1048576) (hbase : base ≤ W.heap.size)
    (h : ∀ g cap w', w'.ownsRow base 2 1 (.slice (some ⟨g, 0, none⟩) (n + 1) cap) (n + 1) ((xs ++ [y]).map (Value.int .i64)) → (W.alloc (.cells #[.int .i64 y] 2)).grownBy w' v.ownBlock → (v.ownBlock = some g ∨ g = W.heap.size + 1) → g < w'.heap.size → K (a.put o.dst (.slice (some ⟨g, 0, none⟩) (n + 1) cap)) w') :
    o.wp Try.prog a (W.alloc (.cells #[.int .i64 y] 2)) K Q := by
  obtain ⟨i0, hi, hz0, hz1, hz2⟩ := info_parts info_i64
  refine wp_append_lies _ s x 22 ho base 2 i0 (.int .i64 0) 1 8 Try.underlying22 hi hz0 hz1 hz2 rfl (by decide) v n (xs.map (Value.int .i64)) hs (hown.alloc _) ⟨W.heap.size, 0, none⟩ 1 1 [.int .i64 y] hx rfl ?_ ?_ (by decide) (by simp only [maxLen]; omega) (by omega) (by simp; omega) (W.heap.size + 1) (by simp) ?_
  · intro j u hj
    cases j with
    | zero => simp at hj; subst hj; simp [Addr.add]
    | succ j => simp at hj
  · intro u hu
    simp at hu
    subst hu
    rfl
  · intro g cap w' h1 h2 h3 h4
    exact h g cap w' (by simpa using h1) h2 h3 h4

theorem wplLies1 {ops : Array Oper} {rest : List Oper} {o : Oper} {a : Act} {Q : Exit → Act → World → Prop} (hgd : o.guard = none) (s x : Operand)
    (ho : o.op = .call { callee := .builtin .append, args := #[s, x], argTypes := #[22, 22] }) (W : World) (k : Nat) (hk : W.heap.size = k) (base n : Nat) (v : Value) (xs : List Int) (y : Int)
    (hs : a.eval s = v) (hown : W.ownsRow base 2 1 v n (xs.map (Value.int .i64))) (hx : a.eval x = .slice (some ⟨k, 0, none⟩) 1 1) (hn : n ≤ 1048576) (hbase : base ≤ k)
    (h : ∀ g cap w', w'.ownsRow base 2 1 (.slice (some ⟨g, 0, none⟩) (n + 1) cap) (n + 1) ((xs ++ [y]).map (Value.int .i64)) → (W.alloc (.cells #[.int .i64 y] 2)).grownBy w' v.ownBlock → (v.ownBlock = some g ∨ g = k + 1) → g < w'.heap.size → wpList Try.prog ops Q rest (a.put o.dst (.slice (some ⟨g, 0, none⟩) (n + 1) cap)) w') :
    wpList Try.prog ops Q (o :: rest) a (W.alloc (.cells #[.int .i64 y] 2)) := by
  subst hk
  exact wpList_plain hgd fun _ hK => wpLies1 s x ho W base n v xs y hs hown hx hn hbase fun g cap w' h1 h2 h3 h4 => hK _ _ (h g cap w' h1 h2 h3 h4)

set_option maxRecDepth 100000 in
/-- the whole array out of its block, into it -/
theorem cs_info : (Try.prog.info? 66).map (·.size) = some 144 := by kernel_rfl
set_option maxRecDepth 100000 in
theorem IsB.loadAt {w : World} {g : Nat} {M : Nat → Bool} (h : IsB w g M) : (Instr.loadAt 66 (.pointer (some ⟨g, 0, none⟩))).run Try.prog w = .ok (.agg (bcs M)) w := by
  simp only [Instr.loadAt, Instr.sureAddr, Sem.run_bind, Sem.run_pure, Result.andThen]
  exact run_loadVar_row w g _ _ _ _ _ h Try.underlying66 rfl (by rw [bcs_size]; exact cs_info)
set_option maxRecDepth 100000 in
theorem IsB.cellsFrom {w : World} {g : Nat} {M : Nat → Bool} (h : IsB w g M) : (loadCellsFrom ⟨g, 0, none⟩ 0 144 #[]).run Try.prog w = .ok (bcs M) w := by
  have := run_loadCells_list (P := Try.prog) w ⟨g, 0, none⟩ (bcs M).toList (fun j v hv => by
    have hadd : (⟨g, 0, none⟩ : Addr).add j = ⟨g, j, none⟩ := by unfold Addr.add; split <;> simp_all
    rw [hadd, cell_of_row _ _ j (bcs M) _ (0, 0) h]
    simpa using hv)
  simpa [loadCells, bcs_size] using this
set_option maxRecDepth 100000 in
theorem IsB.storeAt {w : World} {g : Nat} {M R : Nat → Bool} (h : IsB w g M) : (Instr.storeAt 66 (.pointer (some ⟨g, 0, none⟩)) (.agg (bcs R))).run Try.prog w = .ok () (w.setRow g (bcs R)) := by
  simp only [Instr.storeAt, Instr.sureAddr, Sem.run_bind, Sem.run_pure, Result.andThen]
  exact run_storeVar_row w g _ _ _ _ h (by rw [bcs_size]; exact cs_info) (by rw [bcs_size, bcs_size]) (bcs_one _)
set_option maxRecDepth 100000 in
theorem IsB.storeCells {w : World} {g : Nat} {M R : Nat → Bool} (h : IsB w g M) : (Go.storeCells ⟨g, 0, none⟩ (bcs R).toList 0).run Try.prog w = .ok () (w.setRow g (bcs R)) := by
  have := run_storeVar_row (P := Try.prog) w g _ 66 _ (bcs R) h (by rw [bcs_size]; exact cs_info) (by rw [bcs_size, bcs_size]) (bcs_one _)
  have hi := cs_info
  cases hq : Try.prog.info? 66 with
  | none => simp [hq] at hi
  | some i =>
    have hs : (bcs R).size = i.size := by simp [hq] at hi; rw [bcs_size]; omega
    simpa [storeVar, sizeOf, typeInfo, hq, Value.cells, hs] using this
theorem IsB.setRow {w : World} {g : Nat} {M : Nat → Bool} (h : IsB w g M) (R : Nat → Bool) : IsB (w.setRow g (bcs R)) g R := setRow_heap w g _ _ _ _ h
theorem below_setRowB {B g : Nat} {a w : World} (h : Below B a w) (hg : B ≤ g) (cs : Array Value) : Below B a (w.setRow g cs) :=
  ⟨h.os, h.tape, h.output, by simpa using h.size, fun k hk => (setRow_other w g k cs (by omega)).trans (h.block k hk)⟩

/-- what leads on from a cell: a cell next to it, below the level -/
def nbF (r c lv : Int) (xs : List Int) (n y z : Nat) : Bool := decide (y < n ∧ z < n ∧ (z : Int) ∈ near r c (y : Int) ∧ xs.getD z 0 < lv)
/-- the cells that water reaches from a cell at a level -/
def wetN (r c lv : Int) (xs : List Int) (n x : Nat) : Nat → Bool := wetF n (nbF r c lv xs n) x
theorem nbF_lt {r c lv : Int} {xs : List Int} {n : Nat} : ∀ y z, nbF r c lv xs n y z = true → y < n ∧ z < n := fun y z h => by
  have := of_decide_eq_true h
  exact ⟨this.1, this.2.1⟩
theorem nbF_ltz {r c lv : Int} {xs : List Int} {n : Nat} : ∀ y z, nbF r c lv xs n y z = true → z < n := fun y z h => (nbF_lt y z h).2
theorem near_nat {r c x n : Int} (hr1 : 1 ≤ r) (hc1 : 1 ≤ c) (hx0 : 0 ≤ x) (hx : x < n) (hn : n = r * c) : ∀ q, q < (near r c x).length → 0 ≤ (near r c x).getD q 0 ∧ (near r c x).getD q 0 < n := fun q hq => by
  refine near_mem hr1 hc1 hx0 hx hn _ ?_
  rw [List.getD_eq_getElem?_getD, List.getElem?_eq_getElem hq]
  exact List.getElem_mem hq
theorem nbF_at {r c lv : Int} {xs : List Int} {n y q z : Nat} (hy : y < n) (hq : q < (near r c (y : Int)).length) (hz : (near r c (y : Int)).getD q 0 = (z : Int)) (hn : z < n) : nbF r c lv xs n y z = decide (xs.getD z 0 < lv) := by
  unfold nbF
  have hm : (z : Int) ∈ near r c (y : Int) := by
    rw [← hz, List.getD_eq_getElem?_getD, List.getElem?_eq_getElem hq]
    exact List.getElem_mem hq
  by_cases h : xs.getD z 0 < lv
  · rw [decide_eq_true h, decide_eq_true ⟨hy, hn, hm, h⟩]
  · rw [decide_eq_false h, decide_eq_false (fun g => h g.2.2.2)]
theorem nbF_all {r c lv : Int} {xs : List Int} {n y : Nat} : ∀ z, nbF r c lv xs n y z = true → z ∈ (near r c (y : Int)).map Int.toNat := fun z h => by
  have := (of_decide_eq_true h).2.2.1
  exact List.mem_map.2 ⟨(z : Int), this, by simp⟩
theorem map_take_succ {ys : List Int} {q z : Nat} (hq : q < ys.length) (hz : ys.getD q 0 = (z : Int)) : (ys.take (q + 1)).map Int.toNat = (ys.take q).map Int.toNat ++ [z] := by
  rw [List.take_add_one, List.map_append, List.getElem?_eq_getElem hq]
  have : ys[q] = (z : Int) := by rw [← hz, List.getD_eq_getElem?_getD, List.getElem?_eq_getElem hq]; rfl
  simp [this]
theorem owns_setLow {w : World} {base n size : Nat} {e : TypeId} {v : Value} {xs : List Value} (h : w.ownsRow base e size v n xs) {a : Addr} (ha : a.block < base) (u : Value) : (w.setCell a u).ownsRow base e size v n xs :=
  h.kept (gb_setCell w a u) (by
    cases hv : v.ownBlock with
    | none => simp
    | some g =>
      have := (h.lt g hv).1
      right
      intro e
      injection e with e
      omega)
theorem owns_ne {w : World} {base n size p : Nat} {e : TypeId} {v : Value} {xs : List Value} (h : w.ownsRow base e size v n xs) (hp : p < base) : some p ≠ v.ownBlock := fun e => by
  have := (h.lt p e.symm).1
  omega
def toV (ts : List Nat) : List Int := ts.map fun (t : Nat) => (t : Int)
theorem toV_len (ts : List Nat) : (toV ts).length = ts.length := by simp [toV]
theorem toV_snoc (ts : List Nat) (t : Nat) : toV (ts ++ [t]) = toV ts ++ [(t : Int)] := by simp [toV]

end Go.Proofs.Ythnioohiceohkaa
