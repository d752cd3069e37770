/- The days with the greatest sum of nets: of the program. -/
import Derived.Test.YtfpfmfhhcgafcaaWatI
import Derived.Test.YtfpfmfhhcgafcaaWatS
import Derived.Test.YtfpfmfhhcgafcaaWatW
namespace Go.Proofs.Ytfpfmfhhcgafcaa
open Go.RowKit

/-- the result's box, that of the worst stretch, that of the ending one -/
structure Wst (w wr : World) (f l e a b m : Int) : Prop where
  hb : Below w.heap.size w wr
  hz : w.heap.size + 1 + 1 < wr.heap.size
  c0 : wr.cell? ⟨w.heap.size + 1 + 1, 0, none⟩ = some (.int .i64 f)
  f0 : wr.frozen? ⟨w.heap.size + 1 + 1, 0, none⟩ = false
  d0 : wr.cell? ⟨w.heap.size + 1, 0, none⟩ = some (.int .i64 a)
  g0 : wr.frozen? ⟨w.heap.size + 1, 0, none⟩ = false
  r0 : wr.cell? ⟨w.heap.size, 0, none⟩ = some (.int .i64 0)
  q0 : wr.frozen? ⟨w.heap.size, 0, none⟩ = false
  c1 : wr.cell? ⟨w.heap.size + 1 + 1, 1, none⟩ = some (.int .i64 l)
  f1 : wr.frozen? ⟨w.heap.size + 1 + 1, 1, none⟩ = false
  d1 : wr.cell? ⟨w.heap.size + 1, 1, none⟩ = some (.int .i64 b)
  g1 : wr.frozen? ⟨w.heap.size + 1, 1, none⟩ = false
  r1 : wr.cell? ⟨w.heap.size, 1, none⟩ = some (.int .i64 0)
  q1 : wr.frozen? ⟨w.heap.size, 1, none⟩ = false
  c2 : wr.cell? ⟨w.heap.size + 1 + 1, 2, none⟩ = some (.int .i64 e)
  f2 : wr.frozen? ⟨w.heap.size + 1 + 1, 2, none⟩ = false
  d2 : wr.cell? ⟨w.heap.size + 1, 2, none⟩ = some (.int .i64 m)
  g2 : wr.frozen? ⟨w.heap.size + 1, 2, none⟩ = false
  r2 : wr.cell? ⟨w.heap.size, 2, none⟩ = some (.int .i64 0)
  q2 : wr.frozen? ⟨w.heap.size, 2, none⟩ = false
theorem Wst.mid {w wr W : World} {f l e a b m : Int} (h : Wst w wr f l e a b m) (hb : Below wr.heap.size wr W) : Wst w W f l e a b m where
  hb := h.hb.trans (hb.mono h.hb.size)
  hz := Nat.lt_of_lt_of_le h.hz hb.size
  c0 := (hb.cell (p := ⟨w.heap.size + 1 + 1, 0, none⟩) (by have := h.hz; show w.heap.size + 1 + 1 < _; omega)).trans h.c0
  f0 := (hb.frozen (p := ⟨w.heap.size + 1 + 1, 0, none⟩) (by have := h.hz; show w.heap.size + 1 + 1 < _; omega)).trans h.f0
  d0 := (hb.cell (p := ⟨w.heap.size + 1, 0, none⟩) (by have := h.hz; show w.heap.size + 1 < _; omega)).trans h.d0
  g0 := (hb.frozen (p := ⟨w.heap.size + 1, 0, none⟩) (by have := h.hz; show w.heap.size + 1 < _; omega)).trans h.g0
  r0 := (hb.cell (p := ⟨w.heap.size, 0, none⟩) (by have := h.hz; show w.heap.size < _; omega)).trans h.r0
  q0 := (hb.frozen (p := ⟨w.heap.size, 0, none⟩) (by have := h.hz; show w.heap.size < _; omega)).trans h.q0
  c1 := (hb.cell (p := ⟨w.heap.size + 1 + 1, 1, none⟩) (by have := h.hz; show w.heap.size + 1 + 1 < _; omega)).trans h.c1
  f1 := (hb.frozen (p := ⟨w.heap.size + 1 + 1, 1, none⟩) (by have := h.hz; show w.heap.size + 1 + 1 < _; omega)).trans h.f1
  d1 := (hb.cell (p := ⟨w.heap.size + 1, 1, none⟩) (by have := h.hz; show w.heap.size + 1 < _; omega)).trans h.d1
  g1 := (hb.frozen (p := ⟨w.heap.size + 1, 1, none⟩) (by have := h.hz; show w.heap.size + 1 < _; omega)).trans h.g1
  r1 := (hb.cell (p := ⟨w.heap.size, 1, none⟩) (by have := h.hz; show w.heap.size < _; omega)).trans h.r1
  q1 := (hb.frozen (p := ⟨w.heap.size, 1, none⟩) (by have := h.hz; show w.heap.size < _; omega)).trans h.q1
  c2 := (hb.cell (p := ⟨w.heap.size + 1 + 1, 2, none⟩) (by have := h.hz; show w.heap.size + 1 + 1 < _; omega)).trans h.c2
  f2 := (hb.frozen (p := ⟨w.heap.size + 1 + 1, 2, none⟩) (by have := h.hz; show w.heap.size + 1 + 1 < _; omega)).trans h.f2
  d2 := (hb.cell (p := ⟨w.heap.size + 1, 2, none⟩) (by have := h.hz; show w.heap.size + 1 < _; omega)).trans h.d2
  g2 := (hb.frozen (p := ⟨w.heap.size + 1, 2, none⟩) (by have := h.hz; show w.heap.size + 1 < _; omega)).trans h.g2
  r2 := (hb.cell (p := ⟨w.heap.size, 2, none⟩) (by have := h.hz; show w.heap.size < _; omega)).trans h.r2
  q2 := (hb.frozen (p := ⟨w.heap.size, 2, none⟩) (by have := h.hz; show w.heap.size < _; omega)).trans h.q2
theorem cell7 {W : World} {B i : Nat} (j : Nat) {o : Value} (v : Value) (h : W.cell? ⟨B, i, none⟩ = some o) : (W.setCell ⟨B, j, none⟩ v).cell? ⟨B, i, none⟩ = some (if i = j then v else o) := cell5 j v h
theorem cell8 {W : World} {B C i : Nat} (j : Nat) {o : Value} (v : Value) (hn : B ≠ C) (h : W.cell? ⟨C, i, none⟩ = some o) : (W.setCell ⟨B, j, none⟩ v).cell? ⟨C, i, none⟩ = some o := cell6 j v hn h
theorem Wst.putE0 {w wr : World} {f l e a b m : Int} (h : Wst w wr f l e a b m) (v : Int) : Wst w (wr.setCell ⟨w.heap.size + 1 + 1, 0, none⟩ (.int .i64 v)) v l e a b m where
  hb := h.hb.setCell (by show w.heap.size ≤ w.heap.size + 1 + 1; omega) _
  hz := by have := h.hz; simpa [World.setCell] using this
  c0 := by simpa using cell7 (i := 0) 0 (.int .i64 v) h.c0
  f0 := by simpa using h.f0
  d0 := cell8 0 _ (by omega) h.d0
  g0 := by simpa using h.g0
  r0 := cell8 0 _ (by omega) h.r0
  q0 := by simpa using h.q0
  c1 := by simpa using cell7 (i := 1) 0 (.int .i64 v) h.c1
  f1 := by simpa using h.f1
  d1 := cell8 0 _ (by omega) h.d1
  g1 := by simpa using h.g1
  r1 := cell8 0 _ (by omega) h.r1
  q1 := by simpa using h.q1
  c2 := by simpa using cell7 (i := 2) 0 (.int .i64 v) h.c2
  f2 := by simpa using h.f2
  d2 := cell8 0 _ (by omega) h.d2
  g2 := by simpa using h.g2
  r2 := cell8 0 _ (by omega) h.r2
  q2 := by simpa using h.q2
theorem Wst.putE1 {w wr : World} {f l e a b m : Int} (h : Wst w wr f l e a b m) (v : Int) : Wst w (wr.setCell ⟨w.heap.size + 1 + 1, 1, none⟩ (.int .i64 v)) f v e a b m where
  hb := h.hb.setCell (by show w.heap.size ≤ w.heap.size + 1 + 1; omega) _
  hz := by have := h.hz; simpa [World.setCell] using this
  c0 := by simpa using cell7 (i := 0) 1 (.int .i64 v) h.c0
  f0 := by simpa using h.f0
  d0 := cell8 1 _ (by omega) h.d0
  g0 := by simpa using h.g0
  r0 := cell8 1 _ (by omega) h.r0
  q0 := by simpa using h.q0
  c1 := by simpa using cell7 (i := 1) 1 (.int .i64 v) h.c1
  f1 := by simpa using h.f1
  d1 := cell8 1 _ (by omega) h.d1
  g1 := by simpa using h.g1
  r1 := cell8 1 _ (by omega) h.r1
  q1 := by simpa using h.q1
  c2 := by simpa using cell7 (i := 2) 1 (.int .i64 v) h.c2
  f2 := by simpa using h.f2
  d2 := cell8 1 _ (by omega) h.d2
  g2 := by simpa using h.g2
  r2 := cell8 1 _ (by omega) h.r2
  q2 := by simpa using h.q2
theorem Wst.putE2 {w wr : World} {f l e a b m : Int} (h : Wst w wr f l e a b m) (v : Int) : Wst w (wr.setCell ⟨w.heap.size + 1 + 1, 2, none⟩ (.int .i64 v)) f l v a b m where
  hb := h.hb.setCell (by show w.heap.size ≤ w.heap.size + 1 + 1; omega) _
  hz := by have := h.hz; simpa [World.setCell] using this
  c0 := by simpa using cell7 (i := 0) 2 (.int .i64 v) h.c0
  f0 := by simpa using h.f0
  d0 := cell8 2 _ (by omega) h.d0
  g0 := by simpa using h.g0
  r0 := cell8 2 _ (by omega) h.r0
  q0 := by simpa using h.q0
  c1 := by simpa using cell7 (i := 1) 2 (.int .i64 v) h.c1
  f1 := by simpa using h.f1
  d1 := cell8 2 _ (by omega) h.d1
  g1 := by simpa using h.g1
  r1 := cell8 2 _ (by omega) h.r1
  q1 := by simpa using h.q1
  c2 := by simpa using cell7 (i := 2) 2 (.int .i64 v) h.c2
  f2 := by simpa using h.f2
  d2 := cell8 2 _ (by omega) h.d2
  g2 := by simpa using h.g2
  r2 := cell8 2 _ (by omega) h.r2
  q2 := by simpa using h.q2
theorem Wst.putB0 {w wr : World} {f l e a b m : Int} (h : Wst w wr f l e a b m) (v : Int) : Wst w (wr.setCell ⟨w.heap.size + 1, 0, none⟩ (.int .i64 v)) f l e v b m where
  hb := h.hb.setCell (by show w.heap.size ≤ w.heap.size + 1; omega) _
  hz := by have := h.hz; simpa [World.setCell] using this
  c0 := cell8 0 _ (by omega) h.c0
  f0 := by simpa using h.f0
  d0 := by simpa using cell7 (i := 0) 0 (.int .i64 v) h.d0
  g0 := by simpa using h.g0
  r0 := cell8 0 _ (by omega) h.r0
  q0 := by simpa using h.q0
  c1 := cell8 0 _ (by omega) h.c1
  f1 := by simpa using h.f1
  d1 := by simpa using cell7 (i := 1) 0 (.int .i64 v) h.d1
  g1 := by simpa using h.g1
  r1 := cell8 0 _ (by omega) h.r1
  q1 := by simpa using h.q1
  c2 := cell8 0 _ (by omega) h.c2
  f2 := by simpa using h.f2
  d2 := by simpa using cell7 (i := 2) 0 (.int .i64 v) h.d2
  g2 := by simpa using h.g2
  r2 := cell8 0 _ (by omega) h.r2
  q2 := by simpa using h.q2
theorem Wst.putB1 {w wr : World} {f l e a b m : Int} (h : Wst w wr f l e a b m) (v : Int) : Wst w (wr.setCell ⟨w.heap.size + 1, 1, none⟩ (.int .i64 v)) f l e a v m where
  hb := h.hb.setCell (by show w.heap.size ≤ w.heap.size + 1; omega) _
  hz := by have := h.hz; simpa [World.setCell] using this
  c0 := cell8 1 _ (by omega) h.c0
  f0 := by simpa using h.f0
  d0 := by simpa using cell7 (i := 0) 1 (.int .i64 v) h.d0
  g0 := by simpa using h.g0
  r0 := cell8 1 _ (by omega) h.r0
  q0 := by simpa using h.q0
  c1 := cell8 1 _ (by omega) h.c1
  f1 := by simpa using h.f1
  d1 := by simpa using cell7 (i := 1) 1 (.int .i64 v) h.d1
  g1 := by simpa using h.g1
  r1 := cell8 1 _ (by omega) h.r1
  q1 := by simpa using h.q1
  c2 := cell8 1 _ (by omega) h.c2
  f2 := by simpa using h.f2
  d2 := by simpa using cell7 (i := 2) 1 (.int .i64 v) h.d2
  g2 := by simpa using h.g2
  r2 := cell8 1 _ (by omega) h.r2
  q2 := by simpa using h.q2
theorem Wst.putB2 {w wr : World} {f l e a b m : Int} (h : Wst w wr f l e a b m) (v : Int) : Wst w (wr.setCell ⟨w.heap.size + 1, 2, none⟩ (.int .i64 v)) f l e a b v where
  hb := h.hb.setCell (by show w.heap.size ≤ w.heap.size + 1; omega) _
  hz := by have := h.hz; simpa [World.setCell] using this
  c0 := cell8 2 _ (by omega) h.c0
  f0 := by simpa using h.f0
  d0 := by simpa using cell7 (i := 0) 2 (.int .i64 v) h.d0
  g0 := by simpa using h.g0
  r0 := cell8 2 _ (by omega) h.r0
  q0 := by simpa using h.q0
  c1 := cell8 2 _ (by omega) h.c1
  f1 := by simpa using h.f1
  d1 := by simpa using cell7 (i := 1) 2 (.int .i64 v) h.d1
  g1 := by simpa using h.g1
  r1 := cell8 2 _ (by omega) h.r1
  q1 := by simpa using h.q1
  c2 := cell8 2 _ (by omega) h.c2
  f2 := by simpa using h.f2
  d2 := by simpa using cell7 (i := 2) 2 (.int .i64 v) h.d2
  g2 := by simpa using h.g2
  r2 := cell8 2 _ (by omega) h.r2
  q2 := by simpa using h.q2

theorem fst_step (p : Nat → Int) (k : Nat) : ∀ f, (k = 0 → f = 0) → (∀ j, k = j + 1 → f = fstW p j) → fstW p k = if p k - p f < 0 then k else f := by
  intro f h0 h1
  rcases k with _ | j
  · rw [h0 rfl, if_neg (by omega)]; rfl
  · rw [h1 j rfl]
    show (if p (j + 1) < p (fstW p j) then j + 1 else fstW p j) = _
    by_cases g : p (j + 1) < p (fstW p j)
    · rw [if_pos g, if_pos (by omega)]
    · rw [if_neg g, if_neg (by omega)]
/-- what the program holds after k days: the ending stretch's beginning, its last day, the worst one -/
def EnW (p : Nat → Int) (k : Nat) (f l e a b m : Int) : Prop := (k = 0 → f = 0 ∧ l = 0 ∧ e = 0 ∧ a = 0 ∧ b = 0 ∧ m = 0) ∧ ∀ j, k = j + 1 → f = ((fstW p j : Nat) : Int) ∧ l = (j : Int) ∧ e = p (j + 1) - p (fstW p j) ∧ a = (((bstW p j).1 : Nat) : Int) ∧ b = (((bstW p j).2 : Nat) : Int) ∧ m = p ((bstW p j).2 + 1) - p (bstW p j).1
theorem EnW.start (p : Nat → Int) : EnW p 0 0 0 0 0 0 0 := ⟨fun _ => ⟨rfl, rfl, rfl, rfl, rfl, rfl⟩, fun j hj => by omega⟩
/-- the sum of the ending stretch is that from its beginning on -/
theorem EnW.sum {p : Nat → Int} {k : Nat} {f l e a b m : Int} (h : EnW p k f l e a b m) : ∃ q : Nat, f = (q : Int) ∧ q ≤ k ∧ e = p k - p q ∧ (e < 0 → fstW p k = k) ∧ (¬ e < 0 → fstW p k = q) := by
  rcases k with _ | j
  · obtain ⟨h1, _, h3, _⟩ := h.1 rfl
    exact ⟨0, h1, Nat.le_refl _, by rw [h3]; omega, fun g => by omega, fun _ => rfl⟩
  · obtain ⟨h1, _, h3, _⟩ := h.2 j rfl
    have := (fstW_is p j).1
    refine ⟨fstW p j, h1, by omega, h3, fun g => ?_, fun g => ?_⟩
    · show (if p (j + 1) < p (fstW p j) then j + 1 else fstW p j) = j + 1
      rw [if_pos (by omega)]
    · show (if p (j + 1) < p (fstW p j) then j + 1 else fstW p j) = fstW p j
      rw [if_neg (by omega)]
theorem EnW.next {p : Nat → Int} {k : Nat} {f l e a b m : Int} (h : EnW p k f l e a b m) (q : Nat) (hq : fstW p k = q) (s : Int) (hs : s = p (k + 1) - p q) : ((k = 0 ∨ m < s) → EnW p (k + 1) (q : Int) (k : Int) s (q : Int) (k : Int) s) ∧ (¬ (k = 0 ∨ m < s) → EnW p (k + 1) (q : Int) (k : Int) s a b m) := by
  constructor
  · intro g
    refine ⟨fun h0 => by omega, fun j hj => ?_⟩
    obtain rfl : k = j := by omega
    rw [hq]
    refine ⟨rfl, rfl, hs, ?_⟩
    rcases k with _ | i
    · have : bstW p 0 = (0, 0) := rfl
      have e0 : fstW p 0 = 0 := rfl
      rw [e0] at hq
      subst hq
      rw [this]
      exact ⟨rfl, rfl, hs⟩
    · obtain ⟨_, _, _, _, _, hm⟩ := h.2 i rfl
      have e : bstW p (i + 1) = (fstW p (i + 1), i + 1) := if_pos (by rw [← hm, hq]; have : s = p (i + 2) - p q := hs; omega)
      rw [e, hq]
      exact ⟨rfl, rfl, hs⟩
  · intro g
    refine ⟨fun h0 => by omega, fun j hj => ?_⟩
    obtain rfl : k = j := by omega
    rw [hq]
    refine ⟨rfl, rfl, hs, ?_⟩
    rcases k with _ | i
    · exact absurd (Or.inl rfl) g
    · obtain ⟨_, _, _, ha, hb, hm⟩ := h.2 i rfl
      have e : bstW p (i + 1) = bstW p i := if_neg (by rw [← hm, hq]; have : s = p (i + 2) - p q := hs; omega)
      rw [e]
      exact ⟨ha, hb, hm⟩

set_option maxHeartbeats 3200000 in
theorem worst_t (A : Option Addr) (n c : Nat) (xs : List RWater) (w : World) (hn : n ≤ 1048576) (h0 : 0 < n) (ha : Rd_Water w w.heap.size A n xs) (hv : waList n xs) (p : Nat → Int) (hp : ∀ k, p (k + 1) = p k + netW (xs.getD k zWater)) (hpb : ∀ k, k ≤ n → -3000000000 ≤ p k ∧ p k ≤ 3000000000) (ra rb rm : Int) (hr : ∀ a b m f l e, EnW p n f l e a b m → ra = a ∧ rb = b ∧ rm = m) :
    Calls Try.prog 61 #[.slice A n c] w fun e w' => e = .returned (.agg #[.int .i64 ra, .int .i64 rb, .int .i64 rm]) ∧ Below w.heap.size w w' := by
  have HA := Lib.hid ha
  have HV := Lib.hid hv.1
  have h100 := hv.2
  have HP := Lib.hid hp
  have HB := Lib.hid hpb
  have HR := Lib.hid hr
  clear ha hv hp hpb hr
  go_enter Try.func61, Try.ntmps61
  go_wp2
  go_loopw [5, 6, 7, 10] (fun _ _ _ i wr => ∃ k : Nat, k ≤ n ∧ i = .int .i64 (k : Int) ∧ ∃ f l e a b m : Int, Hid (EnW p k f l e a b m) ∧ Hid (Wst w wr f l e a b m)) (fun _ _ _ i _ => n - (intOf i).toNat)
  case atStart => exact ⟨0, by omega, rfl, 0, 0, 0, 0, 0, 0, Lib.hid (EnW.start p), Lib.hid ⟨(by repeat (first | assumption | exact Below.refl _ _ | (refine Below.setCell ?_ (by first | omega | (simp; done) | (simp; omega)) _) | apply below_drewN | apply Below.drew | (refine Below.alloc ?_ (by first | omega | (simp; done) | (simp; omega)) _))), by simp, by first | (simp; done) | go_simp, by first | (simp; done) | go_simp, by first | (simp; done) | go_simp, by first | (simp; done) | go_simp, by first | (simp; done) | go_simp, by first | (simp; done) | go_simp, by first | (simp; done) | go_simp, by first | (simp; done) | go_simp, by first | (simp; done) | go_simp, by first | (simp; done) | go_simp, by first | (simp; done) | go_simp, by first | (simp; done) | go_simp, by first | (simp; done) | go_simp, by first | (simp; done) | go_simp, by first | (simp; done) | go_simp, by first | (simp; done) | go_simp, by first | (simp; done) | go_simp, by first | (simp; done) | go_simp⟩⟩
  case round =>
    obtain ⟨k, hk, rfl, f, l, e, a, b, m, hE, hbox⟩ := hrel
    have hb := hbox.out.hb
    have hz := hbox.out.hz
    by_cases hlt : k < n
    · obtain ⟨ab, o, rfl, hbB, hc⟩ := (HA.out.below hb).at (by omega)
      have px := hc k hlt
      clear hc
      have hw := HV.out k hlt
      have hs := HP.out k
      have b1 := HB.out k hk
      have b2 := HB.out (k + 1) (by omega)
      obtain ⟨x, hx⟩ := getZW xs k
      rw [← hx] at px hw hs
      clear hx
      obtain ⟨x0, x1, x2, x3, x4⟩ := x
      have HW := Lib.hid (wa_small hw)
      obtain ⟨p0, p1, p2, p3, p4⟩ := px
      simp only at p0 p1 p2 p3 p4
      obtain ⟨t, ht⟩ : ∃ t, t = netW ⟨x0, x1, x2, x3, x4⟩ := ⟨_, rfl⟩
      have HT := Lib.hid ht
      rw [← ht] at hs
      clear ht hw
      obtain ⟨q, hq1, hq2, hq3, hq4, hq5⟩ := hE.out.sum
      have b3 := HB.out q (by omega)
      have f0 := IntWalk.i64_in (k : Int) (by omega)
      by_cases g : e < 0
      · have hF := hq4 g
        have f1 := IntWalk.i64_in t (by omega)
        have f2 : IntKind.i64.wrap (0 + t) = t := by rw [Int.zero_add]; exact f1
        have HN := Lib.hid (hE.out.next k hF t (by omega))
        obtain ⟨_, _, z0, zf0, y0, yf0, _, _, z1, zf1, y1, yf1, _, _, z2, zf2, y2, yf2, _, _⟩ := hbox.out
        clear hq1 hq2 hq3 hq4 hq5 b1 b2 b3 hs
        have BX := Lib.hid (((((hbox.out.putE0 (k : Int)).putE1 0).putE2 0).putE1 (k : Int)))
        go_wp2_with fail
        obtain ⟨V, hV⟩ : ∃ V, V = ((((wr.setCell ⟨w.heap.size + 1 + 1, 0, none⟩ (.int .i64 (k : Int))).setCell ⟨w.heap.size + 1 + 1, 1, none⟩ (.int .i64 0)).setCell ⟨w.heap.size + 1 + 1, 2, none⟩ (.int .i64 0)).setCell ⟨w.heap.size + 1 + 1, 1, none⟩ (.int .i64 (k : Int))) := ⟨_, rfl⟩
        have hVs : V.heap.size = wr.heap.size := by rw [hV]; simp [World.setCell]
        rw [← hV] at BX ⊢
        clear hV
        have hzV := BX.out.hz
        rw [hVs] at hzV
        have BXA := Lib.hid (BX.out.mid (W := V.alloc (.cells #[.int .i64 x0, .int .i64 x1, .int .i64 x2, .int .i64 x3, .int .i64 x4] 25)) (Below.alloc (Below.refl _ _) (Nat.le_refl _) _))
        have zz2 := BXA.out.c2
        have zzf2 := BXA.out.f2
        have hx0 : (V.alloc (.cells #[.int .i64 x0, .int .i64 x1, .int .i64 x2, .int .i64 x3, .int .i64 x4] 25)).cell? ⟨wr.heap.size, 0, none⟩ = some (.int .i64 x0) := by rw [← hVs]; first | (simp; done) | go_simp
        have hx1 : (V.alloc (.cells #[.int .i64 x0, .int .i64 x1, .int .i64 x2, .int .i64 x3, .int .i64 x4] 25)).cell? ⟨wr.heap.size, 1, none⟩ = some (.int .i64 x1) := by rw [← hVs]; first | (simp; done) | go_simp
        have hx2 : (V.alloc (.cells #[.int .i64 x0, .int .i64 x1, .int .i64 x2, .int .i64 x3, .int .i64 x4] 25)).cell? ⟨wr.heap.size, 2, none⟩ = some (.int .i64 x2) := by rw [← hVs]; first | (simp; done) | go_simp
        have hx3 : (V.alloc (.cells #[.int .i64 x0, .int .i64 x1, .int .i64 x2, .int .i64 x3, .int .i64 x4] 25)).cell? ⟨wr.heap.size, 3, none⟩ = some (.int .i64 x3) := by rw [← hVs]; first | (simp; done) | go_simp
        have hx4 : (V.alloc (.cells #[.int .i64 x0, .int .i64 x1, .int .i64 x2, .int .i64 x3, .int .i64 x4] 25)).cell? ⟨wr.heap.size, 4, none⟩ = some (.int .i64 x4) := by rw [← hVs]; first | (simp; done) | go_simp
        have n1 : ¬ w.heap.size + 1 + 1 = wr.heap.size := by omega
        have n2 : ¬ wr.heap.size = w.heap.size + 1 + 1 := by omega
        have n3 : wr.heap.size < (V.alloc (.cells #[.int .i64 x0, .int .i64 x1, .int .i64 x2, .int .i64 x3, .int .i64 x4] 25)).heap.size := by simp [hVs]
        clear z0 zf0 y0 yf0 z1 zf1 y1 yf1 z2 zf2 y2 yf2 p0 p1 p2 p3 p4 hb hz
        first | (go_region_with (first | (go_at_call 47; refine (netI_t x0 x1 x2 x3 x4 _ HW.out t HT.out).mono ?_; rintro e9 W2 ⟨rfl, b9⟩; have BX2 := Lib.hid (BX.out.mid (W := W2) (by repeat (first | assumption | exact Below.refl _ _ | (refine Below.trans ?_ (b9.mono (by first | omega | (simp; done) | (simp; omega)))) | (refine Below.setCell ?_ (by first | omega | (simp; done) | (simp; omega)) _) | apply below_drewN | apply Below.drew | (refine Below.alloc ?_ (by first | omega | (simp; done) | (simp; omega)) _)))); have v0 := BX2.out.c0; have v1 := BX2.out.c1; have v2 := BX2.out.c2; have vf2 := BX2.out.f2; have o0 := BX2.out.d0; have o1 := BX2.out.d1; have o2 := BX2.out.d2; have of0 := BX2.out.g0; have of1 := BX2.out.g1; have of2 := BX2.out.g2; have hy0 : W2.cell? ⟨wr.heap.size, 0, none⟩ = some (.int .i64 x0) := (b9.cell (p := ⟨wr.heap.size, 0, none⟩) n3).trans hx0; have hy1 : W2.cell? ⟨wr.heap.size, 1, none⟩ = some (.int .i64 x1) := (b9.cell (p := ⟨wr.heap.size, 1, none⟩) n3).trans hx1; have hy2 : W2.cell? ⟨wr.heap.size, 2, none⟩ = some (.int .i64 x2) := (b9.cell (p := ⟨wr.heap.size, 2, none⟩) n3).trans hx2; have hy3 : W2.cell? ⟨wr.heap.size, 3, none⟩ = some (.int .i64 x3) := (b9.cell (p := ⟨wr.heap.size, 3, none⟩) n3).trans hx3; have hy4 : W2.cell? ⟨wr.heap.size, 4, none⟩ = some (.int .i64 x4) := (b9.cell (p := ⟨wr.heap.size, 4, none⟩) n3).trans hx4))) | fail
        all_goals
          by_cases hc0 : k = 0
          · have i0 : ((k : Int) == 0) = true := by simp [hc0]
            have HN2 := Lib.hid (HN.out.1 (Or.inl hc0))
            clear hc0
            go_wp2
            go_roundw
            case rel => exact ⟨k + 1, by omega, by go_num, _, _, _, _, _, _, HN2, Lib.hid ((((BX2.out.putE2 t).putB0 (k : Int)).putB1 (k : Int)).putB2 t)⟩
            case measure => simp [intOf]; omega
          · have i0 : ((k : Int) == 0) = false := by simp; omega
            by_cases hc1 : m < t
            · have hc2 : t > m := hc1
              have HN2 := Lib.hid (HN.out.1 (Or.inr hc1))
              go_wp2
              go_roundw
              case rel => exact ⟨k + 1, by omega, by go_num, _, _, _, _, _, _, HN2, Lib.hid ((((BX2.out.putE2 t).putB0 (k : Int)).putB1 (k : Int)).putB2 t)⟩
              case measure => simp [intOf]; omega
            · have hc2 : ¬ t > m := hc1
              have HN2 := Lib.hid (HN.out.2 (fun h => h.elim hc0 hc1))
              go_wp2
              go_roundw
              case rel => exact ⟨k + 1, by omega, by go_num, _, _, _, _, _, _, HN2, Lib.hid (BX2.out.putE2 t)⟩
              case measure => simp [intOf]; omega
      · have hF := hq5 g
        have f1 := IntWalk.i64_in (e + t) (by omega)
        have HN := Lib.hid (hE.out.next q hF (e + t) (by omega))
        rw [← hq1] at HN
        obtain ⟨_, _, z0, zf0, y0, yf0, _, _, z1, zf1, y1, yf1, _, _, z2, zf2, y2, yf2, _, _⟩ := hbox.out
        clear hq1 hq2 hq3 hq4 hq5 b1 b2 b3 hs
        have BX := Lib.hid ((hbox.out.putE1 (k : Int)))
        go_wp2_with fail
        obtain ⟨V, hV⟩ : ∃ V, V = (wr.setCell ⟨w.heap.size + 1 + 1, 1, none⟩ (.int .i64 (k : Int))) := ⟨_, rfl⟩
        have hVs : V.heap.size = wr.heap.size := by rw [hV]; simp [World.setCell]
        rw [← hV] at BX ⊢
        clear hV
        have hzV := BX.out.hz
        rw [hVs] at hzV
        have BXA := Lib.hid (BX.out.mid (W := V.alloc (.cells #[.int .i64 x0, .int .i64 x1, .int .i64 x2, .int .i64 x3, .int .i64 x4] 25)) (Below.alloc (Below.refl _ _) (Nat.le_refl _) _))
        have zz2 := BXA.out.c2
        have zzf2 := BXA.out.f2
        have hx0 : (V.alloc (.cells #[.int .i64 x0, .int .i64 x1, .int .i64 x2, .int .i64 x3, .int .i64 x4] 25)).cell? ⟨wr.heap.size, 0, none⟩ = some (.int .i64 x0) := by rw [← hVs]; first | (simp; done) | go_simp
        have hx1 : (V.alloc (.cells #[.int .i64 x0, .int .i64 x1, .int .i64 x2, .int .i64 x3, .int .i64 x4] 25)).cell? ⟨wr.heap.size, 1, none⟩ = some (.int .i64 x1) := by rw [← hVs]; first | (simp; done) | go_simp
        have hx2 : (V.alloc (.cells #[.int .i64 x0, .int .i64 x1, .int .i64 x2, .int .i64 x3, .int .i64 x4] 25)).cell? ⟨wr.heap.size, 2, none⟩ = some (.int .i64 x2) := by rw [← hVs]; first | (simp; done) | go_simp
        have hx3 : (V.alloc (.cells #[.int .i64 x0, .int .i64 x1, .int .i64 x2, .int .i64 x3, .int .i64 x4] 25)).cell? ⟨wr.heap.size, 3, none⟩ = some (.int .i64 x3) := by rw [← hVs]; first | (simp; done) | go_simp
        have hx4 : (V.alloc (.cells #[.int .i64 x0, .int .i64 x1, .int .i64 x2, .int .i64 x3, .int .i64 x4] 25)).cell? ⟨wr.heap.size, 4, none⟩ = some (.int .i64 x4) := by rw [← hVs]; first | (simp; done) | go_simp
        have n1 : ¬ w.heap.size + 1 + 1 = wr.heap.size := by omega
        have n2 : ¬ wr.heap.size = w.heap.size + 1 + 1 := by omega
        have n3 : wr.heap.size < (V.alloc (.cells #[.int .i64 x0, .int .i64 x1, .int .i64 x2, .int .i64 x3, .int .i64 x4] 25)).heap.size := by simp [hVs]
        clear z0 zf0 y0 yf0 z1 zf1 y1 yf1 z2 zf2 y2 yf2 p0 p1 p2 p3 p4 hb hz
        first | (go_region_with (first | (go_at_call 47; refine (netI_t x0 x1 x2 x3 x4 _ HW.out t HT.out).mono ?_; rintro e9 W2 ⟨rfl, b9⟩; have BX2 := Lib.hid (BX.out.mid (W := W2) (by repeat (first | assumption | exact Below.refl _ _ | (refine Below.trans ?_ (b9.mono (by first | omega | (simp; done) | (simp; omega)))) | (refine Below.setCell ?_ (by first | omega | (simp; done) | (simp; omega)) _) | apply below_drewN | apply Below.drew | (refine Below.alloc ?_ (by first | omega | (simp; done) | (simp; omega)) _)))); have v0 := BX2.out.c0; have v1 := BX2.out.c1; have v2 := BX2.out.c2; have vf2 := BX2.out.f2; have o0 := BX2.out.d0; have o1 := BX2.out.d1; have o2 := BX2.out.d2; have of0 := BX2.out.g0; have of1 := BX2.out.g1; have of2 := BX2.out.g2; have hy0 : W2.cell? ⟨wr.heap.size, 0, none⟩ = some (.int .i64 x0) := (b9.cell (p := ⟨wr.heap.size, 0, none⟩) n3).trans hx0; have hy1 : W2.cell? ⟨wr.heap.size, 1, none⟩ = some (.int .i64 x1) := (b9.cell (p := ⟨wr.heap.size, 1, none⟩) n3).trans hx1; have hy2 : W2.cell? ⟨wr.heap.size, 2, none⟩ = some (.int .i64 x2) := (b9.cell (p := ⟨wr.heap.size, 2, none⟩) n3).trans hx2; have hy3 : W2.cell? ⟨wr.heap.size, 3, none⟩ = some (.int .i64 x3) := (b9.cell (p := ⟨wr.heap.size, 3, none⟩) n3).trans hx3; have hy4 : W2.cell? ⟨wr.heap.size, 4, none⟩ = some (.int .i64 x4) := (b9.cell (p := ⟨wr.heap.size, 4, none⟩) n3).trans hx4))) | fail
        all_goals
          by_cases hc0 : k = 0
          · have i0 : ((k : Int) == 0) = true := by simp [hc0]
            have HN2 := Lib.hid (HN.out.1 (Or.inl hc0))
            clear hc0
            go_wp2
            go_roundw
            case rel => exact ⟨k + 1, by omega, by go_num, _, _, _, _, _, _, HN2, Lib.hid ((((BX2.out.putE2 (e + t)).putB0 f).putB1 (k : Int)).putB2 (e + t))⟩
            case measure => simp [intOf]; omega
          · have i0 : ((k : Int) == 0) = false := by simp; omega
            by_cases hc1 : m < (e + t)
            · have hc2 : (e + t) > m := hc1
              have HN2 := Lib.hid (HN.out.1 (Or.inr hc1))
              go_wp2
              go_roundw
              case rel => exact ⟨k + 1, by omega, by go_num, _, _, _, _, _, _, HN2, Lib.hid ((((BX2.out.putE2 (e + t)).putB0 f).putB1 (k : Int)).putB2 (e + t))⟩
              case measure => simp [intOf]; omega
            · have hc2 : ¬ (e + t) > m := hc1
              have HN2 := Lib.hid (HN.out.2 (fun h => h.elim hc0 hc1))
              go_wp2
              go_roundw
              case rel => exact ⟨k + 1, by omega, by go_num, _, _, _, _, _, _, HN2, Lib.hid (BX2.out.putE2 (e + t))⟩
              case measure => simp [intOf]; omega
    · obtain rfl : k = n := by omega
      obtain ⟨rfl, rfl, rfl⟩ := HR.out _ _ _ _ _ _ hE.out
      obtain ⟨_, _, z0, zf0, y0, yf0, r0, rf0, z1, zf1, y1, yf1, r1, rf1, z2, zf2, y2, yf2, r2, rf2⟩ := hbox.out
      go_wp2
      exact bodyPost_ret (v := .agg #[.int .i64 ra, .int .i64 rb, .int .i64 rm]) (by simp [results, Try.results61, go_sem, r0, r1, r2]) rfl ⟨rfl, (by repeat (first | assumption | exact Below.refl _ _ | (refine Below.trans ?_ (hb.mono (by first | omega | (simp; done) | (simp; omega)))) | (refine Below.setCell ?_ (by first | omega | (simp; done) | (simp; omega)) _) | apply below_drewN | apply Below.drew | (refine Below.alloc ?_ (by first | omega | (simp; done) | (simp; omega)) _)))⟩

end Go.Proofs.Ytfpfmfhhcgafcaa
