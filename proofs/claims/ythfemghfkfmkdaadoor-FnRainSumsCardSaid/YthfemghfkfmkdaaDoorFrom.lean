/- A source made of bytes. -/
import Derived.Test.YthfemghfkfmkdaaDoorDraw
import Derived.Test.YthfemghfkfmkdaaDoorOwn2
namespace Go.Proofs.YthfemghfkfmkdaaDoor
open Go.RowKit

theorem gb_alloc (w : World) (o : Obj) (r : Option Nat) : w.grownBy (w.alloc o) r := ⟨rfl, rfl, rfl, by simp, fun k hk _ => Below.heap_alloc _ _ _ hk⟩
theorem Src.alloc {w : World} {b n k : Nat} (h : Src w b n k) (o : Obj) : Src (w.alloc o) b n k := h.grown (gb_alloc w o none) (fun g e => by cases e)
theorem Src.below {w w' : World} {b n k B : Nat} (h : Src w b n k) (hb : Below B w w') (hB : b < B) (hz : B ≤ w.heap.size) : Src w' b n k := by
  have e := fun j => hb.cell (p := ⟨b, j, none⟩) hB
  obtain ⟨A, c, h0, h1⟩ := h.cd
  refine ⟨⟨A, c, (e 0).trans h0, fun hn => ?_⟩, (e 1).trans h.pos, by obtain ⟨s, hs⟩ := h.sd; exact ⟨s, (e 2).trans hs⟩, fun j => (hb.frozen (p := ⟨b, j, none⟩) hB).trans (h.fz j), Nat.lt_of_lt_of_le h.bs hb.size⟩
  obtain ⟨cb, off, rfl, hcb, hx⟩ := h1 hn
  refine ⟨cb, off, rfl, hcb, fun j hj => ?_⟩
  obtain ⟨x, hx1, hx2⟩ := hx j hj
  exact ⟨x, (hb.cell (p := ⟨cb, off + j, none⟩) (by show cb < B; omega)).trans hx1, hx2⟩
theorem gb_then {w wr w1 : World} {b B : Nat} (h : w.grownBy wr (some b)) (hb : Below B wr w1) (hB : w.heap.size ≤ B) : w.grownBy w1 (some b) :=
  ⟨hb.os.trans h.os, hb.tape.trans h.tape, hb.output.trans h.output, Nat.le_trans h.size hb.size, fun k hk hne => (hb.block k (by omega)).trans (h.block k hk hne)⟩

/-- bytes that lie below -/
def ByR (w : World) (A : Option Addr) (n : Nat) : Prop := 0 < n → ∃ cb off, A = some ⟨cb, off, none⟩ ∧ cb < w.heap.size ∧ ∀ j, j < n → ∃ x : Int, w.cell? ⟨cb, off + j, none⟩ = some (.int .u8 x) ∧ 0 ≤ x ∧ x ≤ 255
theorem ByR.below {w w' : World} {A : Option Addr} {n : Nat} (h : ByR w A n) (hb : Below w.heap.size w w') : ByR w' A n := fun hn => by
  obtain ⟨cb, off, e, hc, hx⟩ := h hn
  refine ⟨cb, off, e, Nat.lt_of_lt_of_le hc hb.size, fun j hj => ?_⟩
  obtain ⟨x, h1, h2⟩ := hx j hj
  exact ⟨x, (hb.cell (p := ⟨cb, off + j, none⟩) hc).trans h1, h2⟩
theorem src_new {w : World} {A : Option Addr} {n c : Nat} (h : ByR w A n) : Src (w.alloc (.cells #[.slice A n c, .int .i64 0, .int .u64 0] 52)) w.heap.size n 0 := by
  have hn := heap_alloc_new w (.cells #[.slice A n c, .int .i64 0, .int .u64 0] 52)
  refine ⟨⟨A, c, by rw [cell_of_row _ _ _ _ _ _ hn]; rfl, fun h0 => ?_⟩, by rw [cell_of_row _ _ _ _ _ _ hn]; rfl, ⟨0, by rw [cell_of_row _ _ _ _ _ _ hn]; rfl⟩, fun j => frozen_of_row hn _, by simp⟩
  obtain ⟨cb, off, e, hc, hx⟩ := h h0
  refine ⟨cb, off, e, hc, fun j hj => ?_⟩
  obtain ⟨x, h1, h2⟩ := hx j hj
  exact ⟨x, (World.cell?_of_block (w := w) (a := ⟨cb, off + j, none⟩) (Below.heap_alloc _ _ _ hc)).trans h1, h2⟩

set_option maxHeartbeats 400000 in
theorem l00From_t (A : Option Addr) (n c : Nat) (w : World) (h : ByR w A n) :
    Calls Tryd.prog 13 #[.slice A n c] w fun e w' => e = .returned (.pointer (some ⟨w.heap.size, 0, none⟩)) ∧ Src w' w.heap.size n 0 ∧ Below w.heap.size w w' := by
  have H := Lib.hid h
  clear h
  go_enter Tryd.func13, Tryd.ntmps13
  go_wp2
  go_ret
  exact ⟨rfl, src_new H.out, (Below.refl _ _).alloc (Nat.le_refl _) _⟩
theorem below_gb {B b : Nat} {w W W' : World} (h : Below B w W) (hg : W.grownBy W' (some b)) (hb : B ≤ b) (hB : B ≤ W.heap.size) : Below B w W' := h.grown hg hB (fun k hk => by injection hk with hk; omega)

theorem IsRow.by {w : World} {a : Option Addr} {len cap : Nat} {zs : List Int} (h : IsRow .u8 w a len cap zs) : ByR w a len := by
  rcases h with ⟨rfl, rfl, rfl, rfl⟩ | ⟨x, rfl, hl, hm, hz, hc, hw⟩
  · exact fun h => absurd h (by omega)
  · intro hn
    have c0 := hc 0 (by omega)
    obtain ⟨b, off, spot⟩ := x
    have hspot : spot = none := by simpa [Addr.add] using World.cell?_spot c0
    subst hspot
    have hb := World.block_lt_of_cell? _ _ c0
    refine ⟨b, off, rfl, by simpa [Addr.add] using hb, fun j hj => ?_⟩
    have cj := hc j (by omega)
    rw [addr_add] at cj
    have hz2 : zs.getD j 0 ∈ zs := by
      rw [List.getD_eq_getElem?_getD, List.getElem?_eq_getElem (show j < zs.length by omega)]
      exact List.getElem_mem _
    generalize zs.getD j 0 = x at cj hz2
    have hx := hw x hz2
    simp [Lit.wf, IntKind.min, IntKind.max, IntKind.signed, IntKind.bits] at hx
    exact ⟨x, cj, by omega, by omega⟩

end Go.Proofs.YthfemghfkfmkdaaDoor
