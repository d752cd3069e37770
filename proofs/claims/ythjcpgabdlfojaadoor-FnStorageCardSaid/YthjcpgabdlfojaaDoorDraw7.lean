/- Draws from bytes: the source made, the drawn curve held, the result laid. -/
import Derived.Test.YthjcpgabdlfojaaDoorBent
import Derived.Test.YthjcpgabdlfojaaDoorAt
namespace Go.Proofs.YthjcpgabdlfojaaDoor
open Go.RowKit

/-- bytes that lie below -/
def ByR (w : World) (A : Option Addr) (n : Nat) : Prop := 0 < n → ∃ cb off, A = some ⟨cb, off, none⟩ ∧ cb < w.heap.size ∧ ∀ j, j < n → ∃ x : Int, w.cell? ⟨cb, off + j, none⟩ = some (.int .u8 x) ∧ 0 ≤ x ∧ x ≤ 255
theorem ByR.below {w w' : World} {A : Option Addr} {n : Nat} (h : ByR w A n) (hb : Below w.heap.size w w') : ByR w' A n := fun hn => by
  obtain ⟨cb, off, e, hc, hx⟩ := h hn
  refine ⟨cb, off, e, Nat.lt_of_lt_of_le hc hb.size, fun j hj => ?_⟩
  obtain ⟨x, h1, h2⟩ := hx j hj
  exact ⟨x, (hb.cell (p := ⟨cb, off + j, none⟩) hc).trans h1, h2⟩
theorem src_new {w : World} {A : Option Addr} {n c : Nat} (h : ByR w A n) : Src (w.alloc (.cells #[.slice A n c, .int .i64 0, .int .u64 0] 80)) w.heap.size n 0 := by
  have hn := heap_alloc_new w (.cells #[.slice A n c, .int .i64 0, .int .u64 0] 80)
  refine ⟨⟨A, c, by rw [cell_of_row _ _ _ _ _ _ hn]; rfl, fun h0 => ?_⟩, by rw [cell_of_row _ _ _ _ _ _ hn]; rfl, ⟨0, by rw [cell_of_row _ _ _ _ _ _ hn]; rfl⟩, fun j => frozen_of_row hn _, by simp⟩
  obtain ⟨cb, off, e, hc, hx⟩ := h h0
  refine ⟨cb, off, e, hc, fun j hj => ?_⟩
  obtain ⟨x, h1, h2⟩ := hx j hj
  exact ⟨x, (World.cell?_of_block (w := w) (a := ⟨cb, off + j, none⟩) (Below.heap_alloc _ _ _ hc)).trans h1, h2⟩

set_option maxHeartbeats 400000 in
theorem l00From_t (A : Option Addr) (n c : Nat) (w : World) (h : ByR w A n) :
    Calls Tryd.prog 29 #[.slice A n c] w fun e w' => e = .returned (.pointer (some ⟨w.heap.size, 0, none⟩)) ∧ Src w' w.heap.size n 0 ∧ Below w.heap.size w w' ∧ w'.heap.size = w.heap.size + 1 := by
  have H := Lib.hid h
  clear h
  go_enter Tryd.func29, Tryd.ntmps29
  go_wp2
  go_ret
  exact ⟨rfl, src_new H.out, (Below.refl _ _).alloc (Nat.le_refl _) _, by simp⟩

/-- a curve that a draw holds: its rows, its box, the empty result, the source in block b -/
structure DS (w W : World) (b n k O : Nat) (A0 : Option Addr) (c0 m0 : Nat) (A1 : Option Addr) (c1 m1 : Nat) (ls vs : List Int) : Prop where
  w0 : Wr W (w.heap.size + 2) A0 m0 ls
  w1 : Wr W (w.heap.size + 2) A1 m1 vs
  box : Box2 W O (.slice A0 m0 c0) (.slice A1 m1 c1)
  res : Box2 W w.heap.size (.slice none 0 0) (.slice none 0 0)
  src : Src W b n k
  bel : Below w.heap.size w W
  hO : w.heap.size + 1 < O
  hb : b = w.heap.size + 1
  f0 : Wf ls
  f1 : Wf vs
section
variable {w W W' : World} {b n k k' O : Nat} {A0 : Option Addr} {c0 m0 : Nat} {A1 : Option Addr} {c1 m1 : Nat} {ls vs : List Int}
theorem wr_far {W W' : World} {lo b : Nat} {A : Option Addr} {m : Nat} {xs : List Int} (h : Wr W lo A m xs) (hg : W.grownBy W' (some b)) (hb : b < lo) : Wr W' lo A m xs := h.grown hg (fun hm e => by
  obtain ⟨b', off, rfl, h0, _⟩ := h.2 hm
  have e' : b' = b := by simpa [ablk] using e
  omega)
theorem below_gb {B b : Nat} {w W W' : World} (h : Below B w W) (hg : W.grownBy W' (some b)) (hb : B ≤ b) (hB : B ≤ W.heap.size) : Below B w W' := h.grown hg hB (fun k hk => by injection hk with hk; omega)
theorem DS.grown (h : DS w W b n k O A0 c0 m0 A1 c1 m1 ls vs) (hg : W.grownBy W' (some b)) (hs : Src W' b n k') : DS w W' b n k' O A0 c0 m0 A1 c1 m1 ls vs := by
  have hb := h.hb
  have hO := h.hO
  have hz := h.bel.size
  exact ⟨wr_far h.w0 hg (by omega), wr_far h.w1 hg (by omega), h.box.grown hg (by simp; omega), h.res.grown hg (by simp; omega), hs, below_gb h.bel hg (by omega) hz, hO, hb, h.f0, h.f1⟩
theorem DS.drew (h : DS w W b n k O A0 c0 m0 A1 c1 m1 ls vs) : DS w W.drew b n k O A0 c0 m0 A1 c1 m1 ls vs := h.grown (gb_drew W _) (h.src.grown (gb_drew W none) (fun g e => by cases e))
theorem DS.alloc (h : DS w W b n k O A0 c0 m0 A1 c1 m1 ls vs) (o : Obj) : DS w (W.alloc o) b n k O A0 c0 m0 A1 c1 m1 ls vs := h.grown (gb_alloc W o _) (h.src.alloc o)
theorem DS.ne0 (h : DS w W b n k O A0 c0 m0 A1 c1 m1 ls vs) : 0 < m0 → ablk A0 ≠ some b := fun hm e => by
  obtain ⟨b', off, rfl, h0, _⟩ := h.w0.2 hm
  have hb := h.hb
  have e' : b' = b := by simpa [ablk] using e
  omega
/-- the result's box and the source are there -/
structure D0 (w w1 : World) (n : Nat) : Prop where
  src : Src w1 (w.heap.size + 1) n 0
  bel : Below w.heap.size w w1
  res : Box2 w1 w.heap.size (.slice none 0 0) (.slice none 0 0)
  sz : w1.heap.size = w.heap.size + 2
theorem l00From_d (A : Option Addr) (n c : Nat) (w : World) (h : ByR w A n) :
    Calls Tryd.prog 29 #[.slice A n c] (w.alloc (.cells #[.slice none 0 0, .slice none 0 0] 37)) fun e w' => e = .returned (.pointer (some ⟨w.heap.size + 1, 0, none⟩)) ∧ D0 w w' n := by
  have e : (w.alloc (.cells #[.slice none 0 0, .slice none 0 0] 37)).heap.size = w.heap.size + 1 := by simp
  have h0 := heap_alloc_new w (.cells #[.slice none 0 0, .slice none 0 0] 37)
  have B0 : Box2 (w.alloc (.cells #[.slice none 0 0, .slice none 0 0] 37)) w.heap.size (.slice none 0 0) (.slice none 0 0) := ⟨by rw [cell_of_row _ _ _ _ _ _ h0]; rfl, by rw [cell_of_row _ _ _ _ _ _ h0]; rfl, fun j => frozen_of_row h0 _⟩
  have b0 : Below w.heap.size w (w.alloc (.cells #[.slice none 0 0, .slice none 0 0] 37)) := (Below.refl _ _).alloc (Nat.le_refl _) _
  refine (l00From_t A n c _ (h.below b0)).mono ?_
  rintro e1 w1 ⟨rfl, S, g, z⟩
  rw [e] at S z
  exact ⟨by rw [e], S, b0.trans (g.mono (by rw [e]; omega)), B0.grown (gb_of_below g none) (by simp), z⟩
theorem D0.ds {w1 W2 : World} (d : D0 w w1 n) (g : w1.grownBy W2 (some (w.heap.size + 1))) (S : Src W2 (w.heap.size + 1) n k) (x0 : Wr W2 w1.heap.size A0 m0 ls) (x1 : Wr W2 w1.heap.size A1 m1 vs) (f0 : Wf ls) (f1 : Wf vs) :
    DS w (W2.alloc (.cells #[.slice A0 m0 c0, .slice A1 m1 c1] 37)) (w.heap.size + 1) n k W2.heap.size A0 c0 m0 A1 c1 m1 ls vs := by
  have sz := g.size
  have hz := d.sz
  have hn := heap_alloc_new W2 (.cells #[.slice A0 m0 c0, .slice A1 m1 c1] 37)
  have ga := gb_alloc W2 (.cells #[.slice A0 m0 c0, .slice A1 m1 c1] 37) none
  exact ⟨(x0.lower (by omega)).grown ga (fun hm e => by obtain ⟨_, _, rfl, _⟩ := x0.2 hm; cases e), (x1.lower (by omega)).grown ga (fun hm e => by obtain ⟨_, _, rfl, _⟩ := x1.2 hm; cases e), ⟨by rw [cell_of_row _ _ _ _ _ _ hn]; rfl, by rw [cell_of_row _ _ _ _ _ _ hn]; rfl, fun j => frozen_of_row hn _⟩,
    (d.res.grown g (by simp)).grown ga (by simp), S.alloc _, (below_gb d.bel g (by omega) d.bel.size).alloc (by omega) _, by omega, rfl, f0, f1⟩
/-- the result is laid in its box -/
theorem DS.fin (h : DS w W b n k O A0 c0 m0 A1 c1 m1 ls vs) :
    ((W.setCell ⟨w.heap.size, 0, none⟩ (.slice A0 m0 c0)).setCell ⟨w.heap.size, 1, none⟩ (.slice A1 m1 c1)).cell? ⟨w.heap.size, 0, none⟩ = some (.slice A0 m0 c0) ∧
    ((W.setCell ⟨w.heap.size, 0, none⟩ (.slice A0 m0 c0)).setCell ⟨w.heap.size, 1, none⟩ (.slice A1 m1 c1)).cell? ⟨w.heap.size, 1, none⟩ = some (.slice A1 m1 c1) ∧
    Wr ((W.setCell ⟨w.heap.size, 0, none⟩ (.slice A0 m0 c0)).setCell ⟨w.heap.size, 1, none⟩ (.slice A1 m1 c1)) w.heap.size A0 m0 ls ∧
    Wr ((W.setCell ⟨w.heap.size, 0, none⟩ (.slice A0 m0 c0)).setCell ⟨w.heap.size, 1, none⟩ (.slice A1 m1 c1)) w.heap.size A1 m1 vs ∧
    Below w.heap.size w ((W.setCell ⟨w.heap.size, 0, none⟩ (.slice A0 m0 c0)).setCell ⟨w.heap.size, 1, none⟩ (.slice A1 m1 c1)) := by
  have R := (h.res.set0 (.slice A0 m0 c0)).set1 (.slice A1 m1 c1)
  exact ⟨R.c0, R.c1, (((h.w0.setLow (a := ⟨w.heap.size, 0, none⟩) (by simp) _).setLow (a := ⟨w.heap.size, 1, none⟩) (by simp) _).lower (by omega)), (((h.w1.setLow (a := ⟨w.heap.size, 0, none⟩) (by simp) _).setLow (a := ⟨w.heap.size, 1, none⟩) (by simp) _).lower (by omega)),
    (h.bel.setCell (by simp) _).setCell (by simp) _⟩
end

end Go.Proofs.YthjcpgabdlfojaaDoor
