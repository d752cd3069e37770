/- Small lemmas for the walks; no function of the program in them. -/
import Derived.Test.YticbnahndidplaaDoorRows
import Derived.WalkKit
import Derived.OwnWalk
import Derived.Deep.QuietTactic
import Derived.BigQuiet
import Derived.RegionTactic
import Derived.ChangeAlike
import Derived.Outline
import Derived.Lib.Hide
import Derived.Maps.AppendAt
import Derived.Laws.MakeOwn
import Derived.Laws.OwnMore
import Derived.Laws.Rows
namespace Go.Proofs.YticbnahndidplaaDoor
open Go.RowKit

theorem ret_int {k : IntKind} {a b : Int} (h : a = b) : Ending.returned (.int k a) = .returned (.int k b) := by rw [h]
theorem ret_str {a b : ByteArray} (h : a = b) : Ending.returned (.string a) = .returned (.string b) := by rw [h]
theorem bytes_ext {a b : ByteArray} (h : a.data.toList = b.data.toList) : a = b := by
  cases a with | mk x => cases b with | mk y => simp only [Array.toList_inj] at h; rw [h]
theorem ret_bool {a b : Bool} (h : a = b) : Ending.returned (.bool a) = .returned (.bool b) := by rw [h]
theorem below_drewN {B : Nat} {a w : World} (h : Below B a w) (n : Nat) : Below B a (w.drewN n) := ⟨h.os, h.tape, h.output, h.size, h.block⟩
theorem bcell {W w1 : World} (hb : Below W.heap.size W w1) : (∀ b o, b < W.heap.size → w1.cell? ⟨b, o, none⟩ = W.cell? ⟨b, o, none⟩) ∧ (∀ b o, b < W.heap.size → w1.frozen? ⟨b, o, none⟩ = W.frozen? ⟨b, o, none⟩) :=
  ⟨fun b o h => hb.cell (p := ⟨b, o, none⟩) h, fun b o h => hb.frozen (p := ⟨b, o, none⟩) h⟩

/-- The slice (A, n) reads as the numbers xs, and lies in a block below B. -/
def Rd (w : World) (B : Nat) (A : Option Addr) (n : Nat) (xs : List Int) : Prop :=
  xs.length = n ∧ (0 < n → ∃ b off, A = some ⟨b, off, none⟩ ∧ b < B ∧ ∀ j, j < n → w.cell? ⟨b, off + j, none⟩ = some (.int .i64 (xs.getD j 0)))
/-- The slice (A, n) reads as the numbers xs, and may be written; its block is not below base. -/
def Wr (w : World) (base : Nat) (A : Option Addr) (n : Nat) (xs : List Int) : Prop :=
  xs.length = n ∧ (0 < n → ∃ b off, A = some ⟨b, off, none⟩ ∧ base ≤ b ∧ b < w.heap.size ∧ ∀ j, j < n → w.cell? ⟨b, off + j, none⟩ = some (.int .i64 (xs.getD j 0)) ∧ w.frozen? ⟨b, off + j, none⟩ = false)
def ablk : Option Addr → Option Nat
  | some a => some a.block
  | none => none

theorem Rd.below {w w' : World} {B : Nat} {A : Option Addr} {n : Nat} {xs : List Int} (h : Rd w B A n xs) (hb : Below B w w') : Rd w' B A n xs :=
  ⟨h.1, fun hn => by
    obtain ⟨b, off, e, hB, hc⟩ := h.2 hn
    exact ⟨b, off, e, hB, fun j hj => (hb.cell (p := ⟨b, off + j, none⟩) hB).trans (hc j hj)⟩⟩
theorem Rd.mono {w : World} {B B' : Nat} {A : Option Addr} {n : Nat} {xs : List Int} (h : Rd w B A n xs) (hB' : B ≤ B') : Rd w B' A n xs :=
  ⟨h.1, fun hn => by
    obtain ⟨b, off, e, hB, hc⟩ := h.2 hn
    exact ⟨b, off, e, by omega, hc⟩⟩
theorem Rd.drewN {w : World} {B : Nat} {A : Option Addr} {n : Nat} {xs : List Int} (h : Rd w B A n xs) (m : Nat) : Rd (w.drewN m) B A n xs := h
theorem Rd.grown {w w' : World} {B : Nat} {A : Option Addr} {n : Nat} {xs : List Int} (h : Rd w B A n xs) (hB : B ≤ w.heap.size) {r : Option Nat} (hg : w.grownBy w' r) (hr : 0 < n → ablk A ≠ r) : Rd w' B A n xs :=
  ⟨h.1, fun hn => by
    obtain ⟨b, off, e, hb, hc⟩ := h.2 hn
    refine ⟨b, off, e, hb, fun j hj => (World.cell?_of_block (hg.block b (by omega) ?_)).trans (hc j hj)⟩
    have := hr hn
    subst e
    exact this⟩
theorem Wr.rd {w : World} {base : Nat} {A : Option Addr} {n : Nat} {xs : List Int} (h : Wr w base A n xs) : Rd w w.heap.size A n xs :=
  ⟨h.1, fun hn => by
    obtain ⟨b, off, e, _, hB, hc⟩ := h.2 hn
    exact ⟨b, off, e, hB, fun j hj => (hc j hj).1⟩⟩
theorem Wr.below {w w' : World} {base : Nat} {A : Option Addr} {n : Nat} {xs : List Int} (h : Wr w base A n xs) (hb : Below w.heap.size w w') : Wr w' base A n xs :=
  ⟨h.1, fun hn => by
    obtain ⟨b, off, e, h0, hB, hc⟩ := h.2 hn
    exact ⟨b, off, e, h0, Nat.lt_of_lt_of_le hB hb.size, fun j hj => ⟨(hb.cell (p := ⟨b, off + j, none⟩) hB).trans (hc j hj).1, (hb.frozen (p := ⟨b, off + j, none⟩) hB).trans (hc j hj).2⟩⟩⟩
theorem Wr.drewN {w : World} {base : Nat} {A : Option Addr} {n : Nat} {xs : List Int} (h : Wr w base A n xs) (m : Nat) : Wr (w.drewN m) base A n xs := h
theorem Wr.grown {w w' : World} {base : Nat} {A : Option Addr} {n : Nat} {xs : List Int} (h : Wr w base A n xs) {r : Option Nat} (hg : w.grownBy w' r) (hr : 0 < n → ablk A ≠ r) : Wr w' base A n xs :=
  ⟨h.1, fun hn => by
    obtain ⟨b, off, e, h0, hb, hc⟩ := h.2 hn
    have hne : some b ≠ r := by
      have := hr hn
      subst e
      exact this
    exact ⟨b, off, e, h0, Nat.lt_of_lt_of_le hb hg.size, fun j hj => ⟨(World.cell?_of_block (hg.block b hb hne)).trans (hc j hj).1, (World.frozen?_of_block (hg.block b hb hne)).trans (hc j hj).2⟩⟩⟩
theorem getD_take_lt (xs : List Int) (k j : Nat) (h : j < k) : (xs.take k).getD j 0 = xs.getD j 0 := by
  simp [List.getD_eq_getElem?_getD, List.getElem?_take, h]
theorem ext_getD {xs ys : List Int} (hl : xs.length = ys.length) (h : ∀ j, j < xs.length → xs.getD j 0 = ys.getD j 0) : xs = ys := by
  apply List.ext_getElem hl
  intro j h1 h2
  have := h j h1
  simpa [List.getD_eq_getElem?_getD, h1, h2] using this
/-- what the marks of a slice are: k, k + 1, .. -/
def marks (k : Int) (n : Nat) : List Int := (List.range n).map fun (j : Nat) => k + (j : Int)
theorem marks_len (k : Int) (n : Nat) : (marks k n).length = n := by simp [marks]
theorem marks_at (k : Int) (n j : Nat) (h : j < n) : (marks k n).getD j 0 = k + (j : Int) := by
  simp [marks, List.getD_eq_getElem?_getD, h]

theorem gb_setCell (w : World) (a : Addr) (u : Value) : w.grownBy (w.setCell a u) (some a.block) :=
  ⟨rfl, rfl, rfl, by simp [World.setCell], fun k _ hk => Below.heap_setCell w a u k (fun e => hk (by rw [e]))⟩
theorem gb_drewN {a w : World} {row : Option Nat} (h : a.grownBy w row) (n : Nat) : a.grownBy (w.drewN n) row := ⟨h.os, h.tape, h.output, h.size, h.block⟩
theorem gb_below {B : Nat} {w w' : World} {A : Option Addr} (h : w.grownBy w' (ablk A)) (hB : B ≤ w.heap.size) (hA : ∀ b, ablk A = some b → B ≤ b) : Below B w w' :=
  ⟨h.os, h.tape, h.output, h.size, fun k hk => h.block k (by omega) (fun e => by have := hA k e.symm; omega)⟩
/-- A row of numbers of which the first k have been overwritten by the function f, the others are xs. -/
def Half (n b o : Nat) (f : Nat → Int) (xs : List Int) (k : Nat) (w : World) : Prop :=
  ∀ j, j < n → w.cell? ⟨b, o + j, none⟩ = some (.int .i64 (if j < k then f j else xs.getD j 0)) ∧ w.frozen? ⟨b, o + j, none⟩ = false
theorem Half.step {n b o : Nat} {f : Nat → Int} {xs : List Int} {k : Nat} {w : World} (h : Half n b o f xs k w) (v : Int) (hv : v = f k) : Half n b o f xs (k + 1) (w.setCell ⟨b, o + k, none⟩ (.int .i64 v)) := by
  intro j hj
  obtain ⟨h1, h2⟩ := h j hj
  refine ⟨?_, by simpa using h2⟩
  by_cases e : j = k
  · subst e
    rw [World.cell?_setCell_same w _ _ h1, if_pos (by omega), hv]
  · rw [World.cell?_setCell_other w _ _ _ (fun h => e (by simpa using h.symm)), h1]
    by_cases h3 : j < k
    · rw [if_pos h3, if_pos (by omega)]
    · rw [if_neg h3, if_neg (by omega)]
theorem Half.drewN {n b o : Nat} {f : Nat → Int} {xs : List Int} {k : Nat} {w : World} (h : Half n b o f xs k w) (m : Nat) : Half n b o f xs k (w.drewN m) := h
theorem Half.done {n b o base : Nat} {f : Nat → Int} {xs ys : List Int} {w : World} (h : Half n b o f xs n w) (hl : ys.length = n) (hy : ∀ j, j < n → ys.getD j 0 = f j) (h0 : base ≤ b) (hb : b < w.heap.size) : Wr w base (some ⟨b, o, none⟩) n ys :=
  ⟨hl, fun _ => ⟨b, o, rfl, h0, hb, fun j hj => by
    obtain ⟨h1, h2⟩ := h j hj
    rw [if_pos hj] at h1
    exact ⟨by rw [hy j hj]; exact h1, h2⟩⟩⟩

theorem run_make_rowN {P : Program} (t e : TypeId) (i : TypeInfo) (z : Value) (ht : P.underlying t = some (.slice e)) (hi : P.info? e = some i) (hz : i.zero = some z)
    (kl kc : IntKind) (n c : Nat) (hnc : n ≤ c) (hbytes : i.bytes * c ≤ 281474976710656) (h63 : c ≤ 9223372036854775807) (w : World) :
    (Instr.makeSlice t (.int kl (n : Int)) (.int kc (c : Int))).run P w = .ok (.slice (some ⟨w.heap.size, 0, none⟩) n c) (w.alloc (.cells (madeCells z.cells (c * i.size)) e)) := by
  have hb : (i.bytes : Int) * (c : Int) ≤ 281474976710656 := by
    have h : ((i.bytes * c : Nat) : Int) ≤ 281474976710656 := by omega
    rwa [Int.natCast_mul] at h
  have hr := run_make (P := P) w t e i z ht hi hz kl kc n c (by omega) (by omega) hb (by omega)
  simp only [Int.toNat_natCast] at hr
  exact hr
theorem frozen_of_row {w : World} {g : Nat} {cs : Array Value} {t : TypeId} (h : w.heap[g]? = some (.cells cs t (0, 0))) (i : Nat) : w.frozen? ⟨g, i, none⟩ = false := by
  simp [World.frozen?, h]
theorem Half.new (w : World) (n : Nat) (f : Nat → Int) (E : TypeId) (m : Nat) (hm : m = n) : Half n w.heap.size 0 f (List.replicate n 0) 0 (w.alloc (.cells (madeCells (Value.int .i64 0).cells m) E)) := by
  subst hm
  intro j hj
  have h : (w.alloc (.cells (madeCells (Value.int .i64 0).cells m) E)).heap[w.heap.size]? = some (.cells (madeCells (Value.int .i64 0).cells m) E (0, 0)) := heap_alloc_new w _
  refine ⟨?_, frozen_of_row h _⟩
  rw [cell_of_row _ _ _ _ _ _ h]
  simp [madeCells, hj, Value.cells, Nat.mod_one, List.getD_eq_getElem?_getD]

theorem own_wr {w : World} {base : Nat} {e : TypeId} {v : Value} {n : Nat} {xs : List Int} (h : w.ownsRow base e 1 v n (xs.map (Value.int .i64))) : ∃ A c, v = .slice A n c ∧ Wr w base A n xs := by
  have hl : xs.length = n := by simpa using h.1
  rcases h.2 with ⟨rfl, rfl⟩ | ⟨g, cap, cur, rfl, hb, hg, hnc, hm, hsz, htake⟩
  · exact ⟨none, 0, rfl, hl, fun h => absurd h (by omega)⟩
  · refine ⟨_, cap, rfl, hl, fun hn => ⟨g, 0, rfl, hb, (h.lt g rfl).2, fun j hj => ⟨?_, frozen_of_row hg _⟩⟩⟩
    rw [cell_of_row _ _ _ _ _ _ hg, Nat.zero_add]
    have h1 : (cur.toList.take (n * 1))[j]? = (xs.map (Value.int .i64))[j]? := by rw [htake]
    rw [Nat.mul_one, List.getElem?_take, if_pos hj] at h1
    rw [← Array.getElem?_toList, h1]
    have hj' : j < xs.length := by omega
    simp [List.getD_eq_getElem?_getD, hj']
theorem below_row {w w' : World} {base : Nat} {e : TypeId} {size n : Nat} {v : Value} {xs : List Value} (h : w.ownsRow base e size v n xs) (hg : w.grownBy w' v.ownBlock) (hB : base ≤ w.heap.size) : Below base w w' :=
  (Below.refl _ _).grown hg hB fun k hk => (h.lt k hk).1

theorem Wr.far {w : World} {base b0 : Nat} {A : Option Addr} {n : Nat} {xs : List Int} (h : Wr w base A n xs) (hb : b0 < base) : 0 < n → ablk A ≠ some b0 := by
  intro hn
  obtain ⟨b, off, rfl, h0, _⟩ := h.2 hn
  intro e
  injection e with e
  have e' : b = b0 := e
  omega

theorem addr_add (b o j : Nat) : (⟨b, o, none⟩ : Addr).add j = ⟨b, o + j, none⟩ := by unfold Addr.add; split <;> simp_all
/-- A slice of integers that came in: nil, or a row of 'cap' cells. -/
def IsRow (k : IntKind) (w : World) (a : Option Addr) (len cap : Nat) (zs : List Int) : Prop :=
  (a = none ∧ len = 0 ∧ cap = 0 ∧ zs = []) ∨
  ∃ x, a = some x ∧ len ≤ cap ∧ cap ≤ maxLen ∧ zs.length = cap ∧ (∀ i, i < zs.length → w.cell? (x.add i) = some (.int k (zs.getD i 0))) ∧ ∀ n ∈ zs, (Lit.int k n).wf = true
theorem IsRow.rd {w : World} {a : Option Addr} {len cap : Nat} {zs : List Int} (h : IsRow .i64 w a len cap zs) : Rd w w.heap.size a len (zs.take len) := by
  rcases h with ⟨rfl, rfl, rfl, rfl⟩ | ⟨x, rfl, hl, hm, hz, hc, _⟩
  · exact ⟨rfl, fun h => absurd h (by omega)⟩
  · refine ⟨by simp; omega, fun hn => ?_⟩
    have c0 := hc 0 (by omega)
    obtain ⟨b, off, spot⟩ := x
    have hspot : spot = none := by simpa [Addr.add] using World.cell?_spot c0
    subst hspot
    have hb := World.block_lt_of_cell? _ _ c0
    refine ⟨b, off, rfl, by simpa [Addr.add] using hb, fun j hj => ?_⟩
    have cj := hc j (by omega)
    rw [getD_take_lt zs len j hj]
    rw [addr_add] at cj
    exact cj
theorem IsRow.wf {w : World} {a : Option Addr} {len cap : Nat} {zs : List Int} (h : IsRow .i64 w a len cap zs) : ∀ n ∈ zs.take len, (Lit.int .i64 n).wf = true := by
  intro n hn
  rcases h with ⟨_, _, _, rfl⟩ | ⟨x, _, _, _, _, _, hw⟩
  · simp at hn
  · exact hw n (List.mem_of_mem_take hn)
theorem IsRow.len {k : IntKind} {w : World} {a : Option Addr} {len cap : Nat} {zs : List Int} (h : IsRow k w a len cap zs) : len ≤ maxLen := by
  rcases h with ⟨_, rfl, _, _⟩ | ⟨x, _, hl, hm, _⟩
  · exact Nat.zero_le _
  · omega

theorem quiet_left {P : Program} {f : FuncId} {args : Array Value} {w : World} {n : Nat} {v : Value}
    (h : Calls P f args (w.drewN n) fun e w' => e = .returned v ∧ w.drewN n = w') : Calls P f args (w.drewN n) fun e w' => e = .returned v ∧ ∃ m, w' = w.drewN m :=
  h.mono fun _ _ ⟨he, hm⟩ => ⟨he, n, hm.symm⟩

end Go.Proofs.YticbnahndidplaaDoor
