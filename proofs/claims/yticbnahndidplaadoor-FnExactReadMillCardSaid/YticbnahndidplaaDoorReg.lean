/- Regions of memory: which row of the call's own was written; no function of the program in it. -/
import Derived.Test.YticbnahndidplaaDoorInts
namespace Go.Proofs.YticbnahndidplaaDoor
open Go.RowKit

/-- the block of a slice that has elements -/
def wblk (A : Option Addr) (n : Nat) : Option Nat := if n = 0 then none else ablk A

theorem Wr.apart {w w2 : World} {lo lo2 : Nat} {A B : Option Addr} {n m : Nat} {xs ys : List Int} (h : Wr w lo A n xs) (k : Wr w2 lo2 B m ys) (hle : w.heap.size ≤ lo2) : 0 < n → ablk A ≠ wblk B m := by
  intro hn
  obtain ⟨b, off, rfl, h0, hb, _⟩ := h.2 hn
  unfold wblk
  split
  · simp [ablk]
  · rename_i hm
    obtain ⟨b', off', rfl, h0', hb', _⟩ := k.2 (by omega)
    simp [ablk]
    omega
theorem Wr.apart' {w w2 : World} {lo lo2 : Nat} {A B : Option Addr} {n m : Nat} {xs ys : List Int} (h : Wr w lo A n xs) (k : Wr w2 lo2 B m ys) (hle : w.heap.size ≤ lo2) : 0 < m → ablk B ≠ wblk A n := by
  intro hm
  obtain ⟨b', off', rfl, h0', hb', _⟩ := k.2 hm
  unfold wblk
  split
  · simp [ablk]
  · rename_i hn
    obtain ⟨b, off, rfl, h0, hb, _⟩ := h.2 (by omega)
    simp [ablk]
    omega
theorem apart_of_ne {A B : Option Addr} {n m : Nat} (h : 0 < n → 0 < m → ablk A ≠ ablk B) (hA : 0 < n → ∃ b, ablk A = some b) : 0 < n → ablk A ≠ wblk B m := by
  intro hn
  unfold wblk
  split
  · obtain ⟨b, hb⟩ := hA hn
    simp [hb]
  · exact h hn (by omega)
theorem Wr.blk {w : World} {lo : Nat} {A : Option Addr} {n : Nat} {xs : List Int} (h : Wr w lo A n xs) : 0 < n → ∃ b, ablk A = some b := by
  intro hn
  obtain ⟨b, off, rfl, _⟩ := h.2 hn
  exact ⟨b, rfl⟩
theorem Wr.lower {w : World} {lo lo' : Nat} {A : Option Addr} {n : Nat} {xs : List Int} (h : Wr w lo A n xs) (hl : lo' ≤ lo) : Wr w lo' A n xs :=
  ⟨h.1, fun hn => by
    obtain ⟨b, off, e, h0, hb, hc⟩ := h.2 hn
    exact ⟨b, off, e, by omega, hb, hc⟩⟩
theorem Wr.setLow {w : World} {lo : Nat} {A : Option Addr} {n : Nat} {xs : List Int} (h : Wr w lo A n xs) {a : Addr} (ha : a.block < lo) (u : Value) : Wr (w.setCell a u) lo A n xs :=
  h.grown (gb_setCell w a u) (fun hn => by
    obtain ⟨b, off, rfl, h0, _⟩ := h.2 hn
    intro e
    have e' : b = a.block := by simpa [ablk] using e
    omega)
/-- from block lo on, what was there is as it was -/
structure Abv (lo : Nat) (w w' : World) : Prop where
  size : w.heap.size ≤ w'.heap.size
  block : ∀ k, lo ≤ k → k < w.heap.size → w'.heap[k]? = w.heap[k]?
theorem Abv.refl (lo : Nat) (w : World) : Abv lo w w := ⟨Nat.le_refl _, fun _ _ _ => rfl⟩
theorem Abv.trans {lo : Nat} {a b c : World} (h : Abv lo a b) (k : Abv lo b c) : Abv lo a c :=
  ⟨Nat.le_trans h.size k.size, fun i hi hl => (k.block i hi (Nat.lt_of_lt_of_le hl h.size)).trans (h.block i hi hl)⟩
theorem Abv.setCell {lo : Nat} {a w : World} (h : Abv lo a w) {p : Addr} (hp : p.block < lo) (u : Value) : Abv lo a (w.setCell p u) :=
  h.trans ⟨by simp [World.setCell], fun k hk _ => Below.heap_setCell _ _ _ _ (by omega)⟩
theorem Abv.alloc {lo : Nat} {a w : World} (h : Abv lo a w) (o : Obj) : Abv lo a (w.alloc o) :=
  h.trans ⟨by simp, fun k _ hk => Below.heap_alloc _ _ _ hk⟩
theorem Abv.drewN {lo : Nat} {a w : World} (h : Abv lo a w) (n : Nat) : Abv lo a (w.drewN n) := ⟨h.size, h.block⟩
theorem Abv.drew {lo : Nat} {a w : World} (h : Abv lo a w) : Abv lo a w.drew := ⟨h.size, h.block⟩
theorem Abv.below {lo : Nat} {a w w' : World} (h : Abv lo a w) (hb : Below w.heap.size w w') : Abv lo a w' := h.trans ⟨hb.size, fun k _ hk => hb.block k hk⟩
theorem Wr.abv {w w' : World} {lo : Nat} {A : Option Addr} {n : Nat} {xs : List Int} (h : Wr w lo A n xs) (hb : Abv lo w w') : Wr w' lo A n xs :=
  ⟨h.1, fun hn => by
    obtain ⟨b, off, e, h0, hB, hc⟩ := h.2 hn
    exact ⟨b, off, e, h0, Nat.lt_of_lt_of_le hB hb.size, fun j hj => ⟨(World.cell?_of_block (w := w) (a := ⟨b, off + j, none⟩) (hb.block b h0 hB)).trans (hc j hj).1, (World.frozen?_of_block (w := w) (a := ⟨b, off + j, none⟩) (hb.block b h0 hB)).trans (hc j hj).2⟩⟩⟩
theorem gb_of_below {w w' : World} (h : Below w.heap.size w w') (row : Option Nat) : w.grownBy w' row := ⟨h.os, h.tape, h.output, h.size, fun k hk _ => h.block k hk⟩
theorem bcellB {B : Nat} {W w1 : World} (hb : Below B W w1) : (∀ b o, b < B → w1.cell? ⟨b, o, none⟩ = W.cell? ⟨b, o, none⟩) ∧ (∀ b o, b < B → w1.frozen? ⟨b, o, none⟩ = W.frozen? ⟨b, o, none⟩) :=
  ⟨fun b o h => hb.cell (p := ⟨b, o, none⟩) h, fun b o h => hb.frozen (p := ⟨b, o, none⟩) h⟩

/-- Writes to one block from lo on, below hi; else new blocks alone. -/
structure Chg (lo hi : Nat) (w w' : World) : Prop where
  os : w'.os = w.os
  tape : w'.tape = w.tape
  output : w'.output = w.output
  size : w.heap.size ≤ w'.heap.size
  block : ∀ k, k < w.heap.size → (k < lo ∨ hi ≤ k) → w'.heap[k]? = w.heap[k]?
theorem Chg.of_grown {w w' c : World} {lo : Nat} {A : Option Addr} {n : Nat} {xs : List Int} (h : w.grownBy w' (wblk A n)) (k : Wr c lo A n xs) : Chg lo c.heap.size w w' :=
  ⟨h.os, h.tape, h.output, h.size, fun i hi hl => h.block i hi (fun e => by
    unfold wblk at e
    split at e
    · simp at e
    · rename_i hn
      obtain ⟨b, off, rfl, h0, hb, _⟩ := k.2 (by omega)
      have e' : i = b := by simpa [ablk] using e
      omega)⟩
theorem Chg.below {w w' : World} {lo hi : Nat} (h : Chg lo hi w w') {B : Nat} (h1 : B ≤ lo) (h2 : B ≤ w.heap.size) : Below B w w' :=
  ⟨h.os, h.tape, h.output, h.size, fun k hk => h.block k (by omega) (.inl (by omega))⟩
theorem Chg.cell {w w' : World} {lo hi : Nat} (h : Chg lo hi w w') {b o : Nat} (hs : b < w.heap.size) (hl : b < lo ∨ hi ≤ b) : w'.cell? ⟨b, o, none⟩ = w.cell? ⟨b, o, none⟩ := World.cell?_of_block (w := w) (h.block b hs hl)

set_option maxHeartbeats 400000 in
theorem markInts_w (A : Option Addr) (base n c : Nat) (xs : List Int) (k0 : Int) (w : World) (hn : n ≤ 281474976710656) (h1 : 0 ≤ k0) (h2 : k0 ≤ 281474976710656) (ha : Wr w base A n xs) :
    Calls Tryd.prog 62 #[.slice A n c, .int .i64 k0] w fun e w' => e = .returned (.int .i64 (k0 + (n : Int))) ∧ Below base w w' ∧ w.grownBy w' (wblk A n) ∧ Wr w' base A n (marks k0 n) := by
  by_cases hz : n = 0
  · subst hz
    go_enter Tryd.func62, Tryd.ntmps62
    go_wp2
    go_loop [1, 5] (fun q i => i = .int .i64 0 ∧ q = .int .i64 k0) (fun _ _ => 0)
    case atStart => exact ⟨rfl, rfl⟩
    case round =>
      obtain ⟨rfl, rfl⟩ := hrel
      go_wp2
      go_ret
      exact ⟨ret_int (by simp), Below.refl _ _, World.grownBy.refl _ _, ⟨rfl, fun h => absurd h (by omega)⟩⟩
  · refine (markInts_t A base n c xs k0 w hn h1 h2 ha).mono ?_
    rintro e w' ⟨rfl, hb, hg, hw⟩
    exact ⟨rfl, hb, by rw [show wblk A n = ablk A from if_neg hz]; exact hg, hw⟩

theorem Chg.trans' {lo hi : Nat} {a b c : World} (h : Below a.heap.size a b) (k : Chg lo hi b c) : Chg lo hi a c :=
  ⟨k.os.trans h.os, k.tape.trans h.tape, k.output.trans h.output, Nat.le_trans h.size k.size, fun i hi' hl => (k.block i (Nat.lt_of_lt_of_le hi' h.size) hl).trans (h.block i hi')⟩
/-- the block of a slice that has elements is below hi -/
def Lt (hi : Nat) (A : Option Addr) (n : Nat) : Prop := 0 < n → ∀ b, ablk A = some b → b < hi
theorem Wr.lt {w : World} {lo : Nat} {A : Option Addr} {n : Nat} {xs : List Int} (h : Wr w lo A n xs) : Lt w.heap.size A n := by
  intro hn b hb
  obtain ⟨b', off, rfl, _, h1, _⟩ := h.2 hn
  have : b' = b := by simpa [ablk] using hb
  omega
/-- two slices with elements lie in two blocks -/
def Dis (A : Option Addr) (n : Nat) (B : Option Addr) (m : Nat) : Prop := 0 < n → 0 < m → ablk A ≠ ablk B
theorem Wr.chg {w w' : World} {lo1 hi1 lo hi : Nat} {A : Option Addr} {n : Nat} {xs : List Int} (h : Wr w lo1 A n xs) (hL : Lt hi1 A n) (c : Chg lo hi w w') (hd : hi1 ≤ lo ∨ hi ≤ lo1) : Wr w' lo1 A n xs :=
  ⟨h.1, fun hn => by
    obtain ⟨b, off, e, h0, hB, hc⟩ := h.2 hn
    have hb : b < hi1 := hL hn b (by rw [e]; rfl)
    have hk := c.block b hB (by omega)
    exact ⟨b, off, e, h0, Nat.lt_of_lt_of_le hB c.size, fun j hj => ⟨(World.cell?_of_block (w := w) (a := ⟨b, off + j, none⟩) hk).trans (hc j hj).1, (World.frozen?_of_block (w := w) (a := ⟨b, off + j, none⟩) hk).trans (hc j hj).2⟩⟩⟩
def Wf (xs : List Int) : Prop := ∀ x ∈ xs, (Lit.int .i64 x).wf = true
theorem Chg.of_row {w w' : World} {lo hi : Nat} {A : Option Addr} {n : Nat} {xs : List Int} (h : w.grownBy w' (wblk A n)) (k : Wr w lo A n xs) (hL : Lt hi A n) : Chg lo hi w w' :=
  ⟨h.os, h.tape, h.output, h.size, fun i hi' hl => h.block i hi' (fun e => by
    unfold wblk at e
    split at e
    · simp at e
    · rename_i hn
      obtain ⟨b, off, rfl, h0, hb, _⟩ := k.2 (by omega)
      have e' : i = b := by simpa [ablk] using e
      have := hL (by omega) b rfl
      omega)⟩

theorem eqInt64S_x (A B : Option Addr) (n c d : Nat) (xs : List Int) (w : World) (hn : n ≤ 1048576) (ha : Rd w w.heap.size A n xs) (hb : Rd w w.heap.size B n xs) :
    Calls Tryd.prog 61 #[.slice A n c, .slice B n d] w fun e w' => e = .returned (.bool true) ∧ Below w.heap.size w w' :=
  (eqInts_t A B n c d xs w (by omega) ha hb).mono fun _ _ ⟨he, m, hm⟩ => ⟨he, by subst hm; exact below_drewN (Below.refl _ _) m⟩

theorem markInt64S_x (lo hi : Nat) (A : Option Addr) (n c : Nat) (xs : List Int) (k0 : Int) (w : World) (h1 : 0 ≤ k0) (h2 : k0 ≤ 140737488355328) (_hh : hi ≤ w.heap.size) (hn : n ≤ 1048576) (ha : Wr w lo A n xs) (hL : Lt hi A n) :
    Calls Tryd.prog 62 #[.slice A n c, .int .i64 k0] w fun e w' => e = .returned (.int .i64 (k0 + (n : Int))) ∧ Chg lo hi w w' ∧ Wr w' lo A n (marks k0 n) :=
  (markInts_w A lo n c xs k0 w (by omega) h1 (by omega) ha).mono fun _ _ ⟨he, _, hg, hw⟩ => ⟨he, Chg.of_row hg ha hL, hw⟩

theorem heldInt64S_x (A : Option Addr) (n c : Nat) (k0 : Int) (w : World) (h1 : 0 ≤ k0) (h2 : k0 ≤ 140737488355328) (hn : n ≤ 1048576) (ha : Rd w w.heap.size A n (marks k0 n)) :
    Calls Tryd.prog 63 #[.slice A n c, .int .i64 k0] w fun e w' => e = .returned (.int .i64 (k0 + (n : Int))) ∧ Below w.heap.size w w' :=
  (heldInts_t A n c k0 w (by omega) h1 (by omega) ha).mono fun _ _ ⟨he, hw⟩ => ⟨he, by subst hw; exact Below.refl _ _⟩

theorem getD_set (xs : List Int) (i j : Nat) (v : Int) (hi : i < xs.length) : (xs.set i v).getD j 0 = if j = i then v else xs.getD j 0 := by
  simp only [List.getD_eq_getElem?_getD, List.getElem?_set]
  by_cases h : i = j
  · subst h; simp [hi]
  · have h2 : ¬ j = i := fun e => h e.symm
    simp [h, h2]
/-- one number is stored -/
theorem Wr.put {w : World} {lo b o n i : Nat} {xs : List Int} (h : Wr w lo (some ⟨b, o, none⟩) n xs) (hi : i < n) (v : Int) : Wr (w.setCell ⟨b, o + i, none⟩ (.int .i64 v)) lo (some ⟨b, o, none⟩) n (xs.set i v) :=
  ⟨by simp [h.1], fun hn => by
    obtain ⟨b', off, e, h0, hB, hc⟩ := h.2 hn
    injection e with e
    injection e with e1 e2
    subst e1
    subst e2
    refine ⟨b, o, rfl, h0, by simpa [World.setCell] using hB, fun j hj => ?_⟩
    obtain ⟨c1, c2⟩ := hc j hj
    refine ⟨?_, by simpa using c2⟩
    rw [getD_set xs i j v (by have := h.1; omega)]
    by_cases e : j = i
    · subst e
      rw [World.cell?_setCell_same w _ _ c1, if_pos rfl]
    · rw [World.cell?_setCell_other w _ _ _ (fun h => e (by simpa using h.symm)), c1, if_neg e]⟩

end Go.Proofs.YticbnahndidplaaDoor
