/- Breaches: an hour, of the model. -/
import Derived.Test.YtckhfkgldemcnaaDoorBreS
namespace Go.Proofs.YtckhfkgldemcnaaDoor
open Go.RowKit

theorem three_back {w : World} {r : Nat} {v0 v1 v2 o0 o1 o2 : Value} (h0 : w.cell? ⟨r, 0, none⟩ = some o0) (h1 : w.cell? ⟨r, 1, none⟩ = some o1) (h2 : w.cell? ⟨r, 2, none⟩ = some o2) :
    (((w.setCell ⟨r, 0, none⟩ v0).setCell ⟨r, 1, none⟩ v1).setCell ⟨r, 2, none⟩ v2).cell? ⟨r, 0, none⟩ = some v0 ∧ (((w.setCell ⟨r, 0, none⟩ v0).setCell ⟨r, 1, none⟩ v1).setCell ⟨r, 2, none⟩ v2).cell? ⟨r, 1, none⟩ = some v1 ∧ (((w.setCell ⟨r, 0, none⟩ v0).setCell ⟨r, 1, none⟩ v1).setCell ⟨r, 2, none⟩ v2).cell? ⟨r, 2, none⟩ = some v2 := by
  have n : ∀ {i j : Nat}, i ≠ j → (⟨r, i, none⟩ : Addr) ≠ ⟨r, j, none⟩ := fun h e => h (by injection e)
  refine ⟨?_, ?_, ?_⟩
  · rw [World.cell?_setCell_other _ _ _ _ (n (by omega)), World.cell?_setCell_other _ _ _ _ (n (by omega))]
    exact World.cell?_setCell_same _ _ _ h0
  · rw [World.cell?_setCell_other _ _ _ _ (n (by omega))]
    exact World.cell?_setCell_same _ _ _ ((World.cell?_setCell_other _ _ _ _ (n (by omega))).trans h1)
  · exact World.cell?_setCell_same _ _ _ (((World.cell?_setCell_other _ _ _ _ (n (by omega))).trans ((World.cell?_setCell_other _ _ _ _ (n (by omega))).trans h2)))
/-- the state of the model's hour: the breach, the result's cell, the new breach (block g), the curve (block q) -/
structure StT (w X : World) (g q : Nat) (a b c ow c2 : Int) (u v : Value) : Prop where
  D : Below w.heap.size w X
  sz : g < X.heap.size
  gl : w.heap.size + 1 < g
  ql : q < w.heap.size
  cells : X.cell? ⟨w.heap.size, 0, none⟩ = some (.int .i64 a) ∧ X.cell? ⟨w.heap.size, 1, none⟩ = some (.int .i64 b) ∧ X.cell? ⟨w.heap.size, 2, none⟩ = some (.int .i64 c) ∧ X.cell? ⟨w.heap.size + 1, 0, none⟩ = some (.int .i64 0) ∧ X.cell? ⟨w.heap.size + 1, 1, none⟩ = some (.int .i64 0) ∧ X.cell? ⟨w.heap.size + 1, 2, none⟩ = some (.int .i64 0) ∧ X.cell? ⟨q, 0, none⟩ = some u ∧ X.cell? ⟨q, 1, none⟩ = some v
  fz : X.frozen? ⟨w.heap.size + 1, 0, none⟩ = false ∧ X.frozen? ⟨w.heap.size + 1, 1, none⟩ = false ∧ X.frozen? ⟨w.heap.size + 1, 2, none⟩ = false
  o : X.cell? ⟨g, 0, none⟩ = some (.int .i64 ow) ∧ X.cell? ⟨g, 1, none⟩ = some (.int .i64 b) ∧ X.cell? ⟨g, 2, none⟩ = some (.int .i64 c2) ∧ X.frozen? ⟨g, 0, none⟩ = false ∧ X.frozen? ⟨g, 1, none⟩ = false ∧ X.frozen? ⟨g, 2, none⟩ = false
theorem StT.below {w X V : World} {g q : Nat} {a b c ow c2 : Int} {u v : Value} (h : StT w X g q a b c ow c2 u v) (hb : Below X.heap.size X V) : StT w V g q a b c ow c2 u v := by
  obtain ⟨D, s, hg, hq, ⟨x0, x1, x2, y0, y1, y2, q0, q1⟩, ⟨f0, f1, f2⟩, ⟨z0, z1, z2, e0, e1, e2⟩⟩ := h
  have c : ∀ (b o : Nat), b < X.heap.size → V.cell? ⟨b, o, none⟩ = X.cell? ⟨b, o, none⟩ := fun (b o : Nat) (h : b < X.heap.size) => hb.cell (p := ⟨b, o, none⟩) h
  have f : ∀ (b o : Nat), b < X.heap.size → V.frozen? ⟨b, o, none⟩ = X.frozen? ⟨b, o, none⟩ := fun (b o : Nat) (h : b < X.heap.size) => hb.frozen (p := ⟨b, o, none⟩) h
  exact ⟨D.trans (hb.mono (by omega)), Nat.lt_of_lt_of_le s hb.size, hg, hq, ⟨(c _ _ (by omega)).trans x0, (c _ _ (by omega)).trans x1, (c _ _ (by omega)).trans x2, (c _ _ (by omega)).trans y0, (c _ _ (by omega)).trans y1, (c _ _ (by omega)).trans y2, (c _ _ (by omega)).trans q0, (c _ _ (by omega)).trans q1⟩, ⟨(f _ _ (by omega)).trans f0, (f _ _ (by omega)).trans f1, (f _ _ (by omega)).trans f2⟩, ⟨(c _ _ (by omega)).trans z0, (c _ _ (by omega)).trans z1, (c _ _ (by omega)).trans z2, (f _ _ (by omega)).trans e0, (f _ _ (by omega)).trans e1, (f _ _ (by omega)).trans e2⟩⟩

theorem StT.below1 {w X V : World} {g q : Nat} {a b c ow c2 : Int} {u v : Value} (h : StT w X g q a b c ow c2 u v) (hb : Below X.drew.heap.size X.drew V) : StT w V g q a b c ow c2 u v := h.below ⟨hb.os, hb.tape, hb.output, hb.size, hb.block⟩
theorem StT.below2 {w X V : World} {g q : Nat} {a b c ow c2 : Int} {u v : Value} (h : StT w X g q a b c ow c2 u v) (hb : Below X.drew.heap.size X.drew V) : StT w V g q a b c ow c2 u v := h.below1 hb
theorem StT.set {w X : World} {g q : Nat} {a b c ow c2 : Int} {u v : Value} (h : StT w X g q a b c ow c2 u v) (n : Int) : StT w (X.setCell ⟨g, 0, none⟩ (.int .i64 n)) g q a b c n c2 u v := by
  obtain ⟨D, s, hg, hq, ⟨x0, x1, x2, y0, y1, y2, q0, q1⟩, ⟨f0, f1, f2⟩, ⟨z0, z1, z2, e0, e1, e2⟩⟩ := h
  have c : ∀ (b o : Nat) (y : Value), b ≠ g → X.cell? ⟨b, o, none⟩ = some y → (X.setCell ⟨g, 0, none⟩ (.int .i64 n)).cell? ⟨b, o, none⟩ = some y := fun b o y h e => (World.cell?_setCell_other _ _ _ _ (fun e => h (by injection e with e1 _; exact e1.symm))).trans e
  have d : ∀ (o : Nat) (y : Value), o ≠ 0 → X.cell? ⟨g, o, none⟩ = some y → (X.setCell ⟨g, 0, none⟩ (.int .i64 n)).cell? ⟨g, o, none⟩ = some y := fun o y h e => (World.cell?_setCell_other _ _ _ _ (fun e => h (by injection e with _ e2; exact e2.symm))).trans e
  exact ⟨D.setCell (p := ⟨g, 0, none⟩) (show w.heap.size ≤ g by omega) _, by simpa [World.setCell] using s, hg, hq, ⟨c _ _ _ (by omega) x0, c _ _ _ (by omega) x1, c _ _ _ (by omega) x2, c _ _ _ (by omega) y0, c _ _ _ (by omega) y1, c _ _ _ (by omega) y2, c _ _ _ (by omega) q0, c _ _ _ (by omega) q1⟩, ⟨by simpa using f0, by simpa using f1, by simpa using f2⟩, ⟨World.cell?_setCell_same _ _ _ z0, d _ _ (by omega) z1, d _ _ (by omega) z2, by simpa using e0, by simpa using e1, by simpa using e2⟩⟩

set_option maxRecDepth 100000 in
set_option maxHeartbeats 6400000 in
theorem stepS_t (q : Nat) (A0 : Option Addr) (n0 k0 : Nat) (ls : List Int) (A1 : Option Addr) (n1 k1 : Nat) (vs : List Int) (a b c y s : Int) (w : World) (hq : q < w.heap.size) (hat : CurveAt w q A0 n0 k0 A1 n1 k1) (hn0 : n0 ≤ 1048576) (hn1 : n1 ≤ 1048576) (ra : Rd w w.heap.size A0 n0 ls) (rb : Rd w w.heap.size A1 n1 vs) (h : brOk ls vs a b c) (hy : levOk y) (hs : stoOk s) (a2 c2 z : Int) (ha2 : a2 = stW a (headN ls vs b c y) s) (hc2 : c2 = c + inflN ls vs a b c y) (hz : z = cloN a (headN ls vs b c y) s) :
    Calls Tryd.prog 54 #[.pointer (some ⟨q, 0, none⟩), .agg #[.int .i64 a, .int .i64 b, .int .i64 c], .int .i64 y, .int .i64 s] w fun e w' => e = .returned (.tuple #[.agg #[.int .i64 a2, .int .i64 b, .int .i64 c2], .int .i64 z]) ∧ Below w.heap.size w w' := by
  have RA := Lib.hid ra
  have RB := Lib.hid rb
  clear ra rb
  have HAT := Lib.hid hat
  obtain ⟨qy0, qy1⟩ := hat
  have HB := Lib.hid h
  have HY := Lib.hid hy
  obtain ⟨inn, hin⟩ : ∃ l, l = inflN ls vs a b c y := ⟨_, rfl⟩
  obtain ⟨hd, hhd⟩ : ∃ l, l = headN ls vs b c y := ⟨_, rfl⟩
  have HI := Lib.hid hin
  have HH := Lib.hid hhd
  obtain ⟨i1, i2, i3⟩ := inflN_bd h hy
  obtain ⟨hb1, hb2⟩ := headN_bd h hy
  rw [← hin] at i1 i2 hc2
  rw [← hhd] at hb1 hb2 ha2 hz
  have hl := last_bd h.1
  have hc0 := h.2.1.2.2.1
  have ha0 := h.2.1.1
  have iw := IntWalk.i64_in (c + inn) (by omega)
  obtain ⟨s1, s2⟩ := hs
  obtain ⟨dq, hdq⟩ : ∃ l, l = (hd + 9) / 10 := ⟨_, rfl⟩
  have HDQ := Lib.hid hdq
  have td : (hd + 9).tdiv 10 = dq := by rw [hdq]; exact Int.tdiv_eq_ediv_of_nonneg (by omega)
  have w1 := IntWalk.i64_in (hd + 9) (by omega)
  have w2 := IntWalk.i64_in dq (by omega)
  have dq0 : 0 ≤ dq ∧ dq ≤ 401 := by omega
  have hcl : z = min (widN a hd) s := by rw [hz]; unfold cloN; omega
  have hst : a2 = min 1000 (widN a hd - z) := by rw [ha2, hz]; unfold stW; omega
  subst hc2
  clear h hy hin hhd i3 hdq ha2 hz
  go_enter Tryd.func54, Tryd.ntmps54
  go_wp2_with fail
  rename_i Q0 K0 hK0
  have key : ∀ (g : Nat) (X : World), Hid (StT w X g q a b c a (c + inn) (.slice A0 n0 k0) (.slice A1 n1 k1)) → K0 ⟨#[.pointer (some ⟨q, 0, none⟩), .agg #[.int .i64 a, .int .i64 b, .int .i64 c], .int .i64 y, .int .i64 s, undef, .pointer (some ⟨w.heap.size, 0, none⟩), undef, undef, .pointer (some ⟨w.heap.size + 1, 0, none⟩), .int .i64 0, .pointer (some ⟨g, 0, none⟩), undef, .pointer (some ⟨w.heap.size, 0, none⟩), .int .i64 a, .pointer (some ⟨w.heap.size, 1, none⟩), .int .i64 b, .pointer (some ⟨w.heap.size, 2, none⟩), .int .i64 c, .pointer (some ⟨q, 0, none⟩), .agg #[.int .i64 a, .int .i64 b, .int .i64 c], .int .i64 y, .int .i64 inn, .int .i64 (c + inn), .agg #[.int .i64 a, .int .i64 b, .int .i64 (c + inn)], undef, undef, undef, undef, undef, undef, undef, undef, undef, undef, undef, undef, undef, undef, undef, undef, undef, undef, undef, undef, undef, undef, undef, undef, undef], []⟩ X := by
    intro g X ST
    refine hK0 _ _ ?_
    obtain ⟨dX, sX, gX, qX, ⟨x0, x1, x2, y0, y1, y2, q0, q1⟩, ⟨f0, f1, f2⟩, ⟨z0, z1, z2, k0', k1', k2'⟩⟩ := ST.out
    by_cases ha : 0 < a
    · have ew : widN a hd = a + dq := by rw [HDQ.out]; exact if_pos ha
      rw [ew] at hcl hst
      have hcl' := Lib.hid hcl
      have hst' := Lib.hid hst
      have w3 := IntWalk.i64_in (a + dq) (by omega)
      have w4 := IntWalk.i64_in (a + dq - z) (by omega)
      clear hcl hst ew y0 y1 y2 f0 f1 f2 z1 z2 k1' k2'
      go_wp2_with fail
      rename_i K3 hK3
      have key3 : ∀ (X2 : World), Hid (StT w X2 g q a b c (a + dq) (c + inn) (.slice A0 n0 k0) (.slice A1 n1 k1)) → K3 ⟨#[.pointer (some ⟨q, 0, none⟩), .agg #[.int .i64 a, .int .i64 b, .int .i64 c], .int .i64 y, .int .i64 s, undef, .pointer (some ⟨w.heap.size, 0, none⟩), undef, undef, .pointer (some ⟨w.heap.size + 1, 0, none⟩), .int .i64 0, .pointer (some ⟨g, 0, none⟩), undef, .pointer (some ⟨w.heap.size, 0, none⟩), .int .i64 a, .pointer (some ⟨w.heap.size, 1, none⟩), .int .i64 b, .pointer (some ⟨w.heap.size, 2, none⟩), .int .i64 c, .pointer (some ⟨q, 0, none⟩), .agg #[.int .i64 a, .int .i64 b, .int .i64 c], .int .i64 y, .int .i64 inn, .int .i64 (c + inn), .agg #[.int .i64 a, .int .i64 b, .int .i64 (c + inn)], .pointer (some ⟨g, 0, none⟩), .int .i64 a, .bool true, .pointer (some ⟨g, 0, none⟩), .int .i64 a, .pointer (some ⟨q, 0, none⟩), .agg #[.int .i64 a, .int .i64 b, .int .i64 c], .int .i64 y, .int .i64 hd, .int .i64 (hd + 9), .int .i64 dq, .int .i64 (a + dq), .pointer (some ⟨g, 0, none⟩), undef, undef, undef, undef, undef, undef, undef, undef, undef, undef, undef, undef], []⟩ X2 := by
        intro X2 ST2
        refine hK3 _ _ ?_
        clear hK3
        obtain ⟨D2, sX2, gX2, qX2, ⟨x0, x1, x2, y0, y1, y2, q0, q1⟩, ⟨f0, f1, f2⟩, ⟨z0, z1, z2, k0', k1', k2'⟩⟩ := ST2.out
        have ng1 : ¬ w.heap.size + 1 = g := by omega
        have ng2 : ¬ g = w.heap.size + 1 := by omega
        clear x0 x1 x2 q0 q1
        go_wp2_with (go_at_call 84; (first | (refine (minS_t (a + dq) s _ z hcl'.out).mono ?_; rintro e4 W4 ⟨rfl, rfl⟩) | (refine (minS_t 1000 ((a + dq) - z) _ a2 hst'.out).mono ?_; rintro e5 W5 ⟨rfl, rfl⟩)))
        have PZ := three_back (w := X2.setCell ⟨g, 0, none⟩ (.int .i64 a2)) (r := w.heap.size + 1) (v0 := .int .i64 a2) (v1 := .int .i64 b) (v2 := .int .i64 (c + inn)) ((World.cell?_setCell_other _ _ _ _ (fun e => ng2 (by injection e))).trans y0) ((World.cell?_setCell_other _ _ _ _ (fun e => ng2 (by injection e))).trans y1) ((World.cell?_setCell_other _ _ _ _ (fun e => ng2 (by injection e))).trans y2)
        have DZ : Below w.heap.size w ((((X2.setCell ⟨g, 0, none⟩ (.int .i64 a2)).setCell ⟨w.heap.size + 1, 0, none⟩ (.int .i64 a2)).setCell ⟨w.heap.size + 1, 1, none⟩ (.int .i64 b)).setCell ⟨w.heap.size + 1, 2, none⟩ (.int .i64 (c + inn))) := (by repeat (first | assumption | exact Below.refl _ _ | (refine Below.trans ?_ (D2.mono (by first | omega | (simp; done) | (simp; omega)))) | (refine Below.setCell ?_ (by first | omega | (simp; done) | (simp; omega)) _) | apply below_drewN | apply Below.drew | (refine Below.alloc ?_ (by first | omega | (simp; done) | (simp; omega)) _)))
        generalize ((((X2.setCell ⟨g, 0, none⟩ (.int .i64 a2)).setCell ⟨w.heap.size + 1, 0, none⟩ (.int .i64 a2)).setCell ⟨w.heap.size + 1, 1, none⟩ (.int .i64 b)).setCell ⟨w.heap.size + 1, 2, none⟩ (.int .i64 (c + inn))) = Z at PZ DZ ⊢
        obtain ⟨p0, p1, p2⟩ := PZ
        exact bodyPost_ret (v := .tuple #[.agg #[.int .i64 a2, .int .i64 b, .int .i64 (c + inn)], .int .i64 z]) (by simp [results, Tryd.results54, go_sem, p0, p1, p2]) rfl ⟨rfl, DZ⟩
      clear hK3
      refine wp_region_held_drew (S := fun w' => w'.cell? ⟨w.heap.size, 0, none⟩ = some (.int .i64 a) ∧ w'.cell? ⟨w.heap.size, 1, none⟩ = some (.int .i64 b) ∧ w'.cell? ⟨w.heap.size, 2, none⟩ = some (.int .i64 c) ∧ w'.cell? ⟨q, 0, none⟩ = some (.slice A0 n0 k0) ∧ w'.cell? ⟨q, 1, none⟩ = some (.slice A1 n1 k1)) (by kernel_rfl) ⟨x0, x1, x2, q0, q1⟩ (fun hHeld => ?_)
      ((refine wpAnyH_take (i := 0) (oi := ⟨some 27, _, _, _, _, _⟩) (v := ?_) rfl (by kernel_rfl) (by kernel_rfl) (by kernel_rfl) (fun _ _ _ h => h) (Or.inl ⟨by rfl, ?_⟩) (by assumption) ?_; rotate_left 1; (focus (intro w hSw; (try dsimp only at hSw); go_simp <;> try (first | (with_reducible rfl) | (rw [if_neg (by omega)]) | (rw [if_pos (by omega)])))); try simp only [Act.put, List.setIfInBounds_toArray, List.set_cons_zero, List.set_cons_succ]); (refine wpAnyH_take (i := 2) (oi := ⟨some 29, _, _, _, _, _⟩) (v := ?_) rfl (by kernel_rfl) (by kernel_rfl) (by kernel_rfl) (fun _ _ _ h => h) (Or.inl ⟨by rfl, ?_⟩) (by assumption) ?_; rotate_left 1; (focus (intro w hSw; (try dsimp only at hSw); go_simp <;> try (first | (with_reducible rfl) | (rw [if_neg (by omega)]) | (rw [if_pos (by omega)])))); try simp only [Act.put, List.setIfInBounds_toArray, List.set_cons_zero, List.set_cons_succ]); (refine wpAnyH_take (i := 3) (oi := ⟨some 30, _, _, _, _, _⟩) (v := ?_) rfl (by kernel_rfl) (by kernel_rfl) (by kernel_rfl) (fun _ _ _ h => h) (Or.inl ⟨by rfl, ?_⟩) (by assumption) ?_; rotate_left 1; (focus (intro w hSw; (try dsimp only at hSw); go_simp <;> try (first | (with_reducible rfl) | (rw [if_neg (by omega)]) | (rw [if_pos (by omega)])))); try simp only [Act.put, List.setIfInBounds_toArray, List.set_cons_zero, List.set_cons_succ]); (refine wpAnyH_take (i := 4) (oi := ⟨some 31, _, _, _, _, _⟩) (v := ?_) rfl (by kernel_rfl) (by kernel_rfl) (by kernel_rfl) (fun _ _ _ h => h) (Or.inl ⟨by rfl, ?_⟩) (by assumption) ?_; rotate_left 1; (focus (intro w hSw; (try dsimp only at hSw); go_simp <;> try (first | (with_reducible rfl) | (rw [if_neg (by omega)]) | (rw [if_pos (by omega)])))); try simp only [Act.put, List.setIfInBounds_toArray, List.set_cons_zero, List.set_cons_succ]))
      refine wpAnyH_ready (rs := [1, 5]) (by kernel_rfl) (by simp) ?_
      refine AllReadyH.cons (o := ⟨some 28, _, _, _, _, _⟩) rfl (fun K hK => ?_) (AllReadyH.cons (o := ⟨some 32, _, _, _, _, _⟩) rfl (fun K hK => ?_) AllReadyH.nil)
      · go_simp
        (refine hK.out _ _ ?_ (fun hHeld => ?_))
        · exact hHeld
        clear hK K
        refine wpAnyH_ready (rs := [5]) (by kernel_rfl) (by simp) ?_
        refine AllReadyH.cons (o := ⟨some 32, _, _, _, _, _⟩) rfl (fun K hK => ?_) AllReadyH.nil
        go_simp
        refine (headS_t q A0 n0 k0 ls A1 n1 k1 vs a b c y _ (by first | omega | (simp; done) | (simp; omega)) (HAT.out.below (B := w.heap.size) (by repeat (first | assumption | exact Below.refl _ _ | (refine Below.trans ?_ (dX.mono (by first | omega | (simp; done) | (simp; omega)))) | (refine Below.setCell ?_ (by first | omega | (simp; done) | (simp; omega)) _) | apply below_drewN | apply Below.drew | (refine Below.alloc ?_ (by first | omega | (simp; done) | (simp; omega)) _))) hq) hn0 hn1 ((RA.out.below (by repeat (first | assumption | exact Below.refl _ _ | (refine Below.trans ?_ (dX.mono (by first | omega | (simp; done) | (simp; omega)))) | (refine Below.setCell ?_ (by first | omega | (simp; done) | (simp; omega)) _) | apply below_drewN | apply Below.drew | (refine Below.alloc ?_ (by first | omega | (simp; done) | (simp; omega)) _)))).mono (by first | omega | (simp; done) | (simp; omega))) ((RB.out.below (by repeat (first | assumption | exact Below.refl _ _ | (refine Below.trans ?_ (dX.mono (by first | omega | (simp; done) | (simp; omega)))) | (refine Below.setCell ?_ (by first | omega | (simp; done) | (simp; omega)) _) | apply below_drewN | apply Below.drew | (refine Below.alloc ?_ (by first | omega | (simp; done) | (simp; omega)) _)))).mono (by first | omega | (simp; done) | (simp; omega))) HB.out HY.out hd HH.out).mono ?_
        rintro e1 V1 ⟨rfl, B1⟩
        have ST1 := Lib.hid (show StT w V1 g q a b c a (c + inn) (.slice A0 n0 k0) (.slice A1 n1 k1) from ST.out.below2 B1)
        clear x0 x1 x2 q0 q1 z0
        obtain ⟨_, sX1, gX1, qX1, ⟨x0, x1, x2, _, _, _, q0, q1⟩, _, ⟨z0, _, _, k0', _, _⟩⟩ := ST1.out
        clear hHeld
        (refine hK.out _ _ ?_ (fun hHeld => ?_))
        · exact ⟨x0, x1, x2, q0, q1⟩
        clear hK K
        ((refine wpAnyH_take (i := 6) (oi := ⟨some 33, _, _, _, _, _⟩) (v := ?_) rfl (by kernel_rfl) (by kernel_rfl) (by kernel_rfl) (fun _ _ _ h => h) (Or.inl ⟨by rfl, ?_⟩) (by assumption) ?_; rotate_left 1; (focus (intro w hSw; (try dsimp only at hSw); go_simp <;> try (first | (with_reducible rfl) | (rw [if_neg (by omega)]) | (rw [if_pos (by omega)])))); try simp only [Act.put, List.setIfInBounds_toArray, List.set_cons_zero, List.set_cons_succ]); (refine wpAnyH_take (i := 7) (oi := ⟨some 34, _, _, _, _, _⟩) (v := ?_) rfl (by kernel_rfl) (by kernel_rfl) (by kernel_rfl) (fun _ _ _ h => h) (Or.inl ⟨by rfl, ?_⟩) (by assumption) ?_; rotate_left 1; (focus (intro w hSw; (try dsimp only at hSw); go_simp <;> try (first | (with_reducible rfl) | (rw [if_neg (by omega)]) | (rw [if_pos (by omega)])))); try simp only [Act.put, List.setIfInBounds_toArray, List.set_cons_zero, List.set_cons_succ]); (refine wpAnyH_take (i := 8) (oi := ⟨some 35, _, _, _, _, _⟩) (v := ?_) rfl (by kernel_rfl) (by kernel_rfl) (by kernel_rfl) (fun _ _ _ h => h) (Or.inl ⟨by rfl, ?_⟩) (by assumption) ?_; rotate_left 1; (focus (intro w hSw; (try dsimp only at hSw); go_simp <;> try (first | (with_reducible rfl) | (rw [if_neg (by omega)]) | (rw [if_pos (by omega)])))); try simp only [Act.put, List.setIfInBounds_toArray, List.set_cons_zero, List.set_cons_succ]); (refine wpAnyH_take (i := 9) (oi := ⟨some 36, _, _, _, _, _⟩) (v := ?_) rfl (by kernel_rfl) (by kernel_rfl) (by kernel_rfl) (fun _ _ _ h => h) (Or.inl ⟨by rfl, ?_⟩) (by assumption) ?_; rotate_left 1; (focus (intro w hSw; (try dsimp only at hSw); go_simp <;> try (first | (with_reducible rfl) | (rw [if_neg (by omega)]) | (rw [if_pos (by omega)])))); try simp only [Act.put, List.setIfInBounds_toArray, List.set_cons_zero, List.set_cons_succ]))
        refine wpAnyH_ready (rs := [10]) (by kernel_rfl) (by simp) ?_
        refine AllReadyH.cons (o := ⟨none, _, _, _, _, _⟩) rfl (fun K hK => ?_) AllReadyH.nil
        go_simp
        have ST2 := Lib.hid (ST1.out.set (a + dq))
        obtain ⟨_, _, _, _, ⟨t0, t1, t2, _, _, _, t3, t4⟩, _, _⟩ := ST2.out
        (refine hK.out _ _ ?_ (fun hHeld => ?_))
        · exact ⟨t0, t1, t2, t3, t4⟩
        clear hK K
        refine wpAnyH_done (by kernel_rfl) ?_ _
        exact key3 _ ST2
      · go_simp
        refine (headS_t q A0 n0 k0 ls A1 n1 k1 vs a b c y _ (by first | omega | (simp; done) | (simp; omega)) (HAT.out.below (B := w.heap.size) (by repeat (first | assumption | exact Below.refl _ _ | (refine Below.trans ?_ (dX.mono (by first | omega | (simp; done) | (simp; omega)))) | (refine Below.setCell ?_ (by first | omega | (simp; done) | (simp; omega)) _) | apply below_drewN | apply Below.drew | (refine Below.alloc ?_ (by first | omega | (simp; done) | (simp; omega)) _))) hq) hn0 hn1 ((RA.out.below (by repeat (first | assumption | exact Below.refl _ _ | (refine Below.trans ?_ (dX.mono (by first | omega | (simp; done) | (simp; omega)))) | (refine Below.setCell ?_ (by first | omega | (simp; done) | (simp; omega)) _) | apply below_drewN | apply Below.drew | (refine Below.alloc ?_ (by first | omega | (simp; done) | (simp; omega)) _)))).mono (by first | omega | (simp; done) | (simp; omega))) ((RB.out.below (by repeat (first | assumption | exact Below.refl _ _ | (refine Below.trans ?_ (dX.mono (by first | omega | (simp; done) | (simp; omega)))) | (refine Below.setCell ?_ (by first | omega | (simp; done) | (simp; omega)) _) | apply below_drewN | apply Below.drew | (refine Below.alloc ?_ (by first | omega | (simp; done) | (simp; omega)) _)))).mono (by first | omega | (simp; done) | (simp; omega))) HB.out HY.out hd HH.out).mono ?_
        rintro e1 V1 ⟨rfl, B1⟩
        have ST1 := Lib.hid (show StT w V1 g q a b c a (c + inn) (.slice A0 n0 k0) (.slice A1 n1 k1) from ST.out.below1 B1)
        clear x0 x1 x2 q0 q1 z0
        obtain ⟨_, sX1, gX1, qX1, ⟨x0, x1, x2, _, _, _, q0, q1⟩, _, ⟨z0, _, _, k0', _, _⟩⟩ := ST1.out
        clear hHeld
        (refine hK.out _ _ ?_ (fun hHeld => ?_))
        · exact ⟨x0, x1, x2, q0, q1⟩
        clear hK K
        ((refine wpAnyH_take (i := 6) (oi := ⟨some 33, _, _, _, _, _⟩) (v := ?_) rfl (by kernel_rfl) (by kernel_rfl) (by kernel_rfl) (fun _ _ _ h => h) (Or.inl ⟨by rfl, ?_⟩) (by assumption) ?_; rotate_left 1; (focus (intro w hSw; (try dsimp only at hSw); go_simp <;> try (first | (with_reducible rfl) | (rw [if_neg (by omega)]) | (rw [if_pos (by omega)])))); try simp only [Act.put, List.setIfInBounds_toArray, List.set_cons_zero, List.set_cons_succ]); (refine wpAnyH_take (i := 7) (oi := ⟨some 34, _, _, _, _, _⟩) (v := ?_) rfl (by kernel_rfl) (by kernel_rfl) (by kernel_rfl) (fun _ _ _ h => h) (Or.inl ⟨by rfl, ?_⟩) (by assumption) ?_; rotate_left 1; (focus (intro w hSw; (try dsimp only at hSw); go_simp <;> try (first | (with_reducible rfl) | (rw [if_neg (by omega)]) | (rw [if_pos (by omega)])))); try simp only [Act.put, List.setIfInBounds_toArray, List.set_cons_zero, List.set_cons_succ]))
        refine wpAnyH_ready (rs := [1]) (by kernel_rfl) (by simp) ?_
        refine AllReadyH.cons (o := ⟨some 28, _, _, _, _, _⟩) rfl (fun K hK => ?_) AllReadyH.nil
        go_simp
        (refine hK.out _ _ ?_ (fun hHeld => ?_))
        · exact hHeld
        clear hK K
        ((refine wpAnyH_take (i := 8) (oi := ⟨some 35, _, _, _, _, _⟩) (v := ?_) rfl (by kernel_rfl) (by kernel_rfl) (by kernel_rfl) (fun _ _ _ h => h) (Or.inl ⟨by rfl, ?_⟩) (by assumption) ?_; rotate_left 1; (focus (intro w hSw; (try dsimp only at hSw); go_simp <;> try (first | (with_reducible rfl) | (rw [if_neg (by omega)]) | (rw [if_pos (by omega)])))); try simp only [Act.put, List.setIfInBounds_toArray, List.set_cons_zero, List.set_cons_succ]); (refine wpAnyH_take (i := 9) (oi := ⟨some 36, _, _, _, _, _⟩) (v := ?_) rfl (by kernel_rfl) (by kernel_rfl) (by kernel_rfl) (fun _ _ _ h => h) (Or.inl ⟨by rfl, ?_⟩) (by assumption) ?_; rotate_left 1; (focus (intro w hSw; (try dsimp only at hSw); go_simp <;> try (first | (with_reducible rfl) | (rw [if_neg (by omega)]) | (rw [if_pos (by omega)])))); try simp only [Act.put, List.setIfInBounds_toArray, List.set_cons_zero, List.set_cons_succ]))
        refine wpAnyH_ready (rs := [10]) (by kernel_rfl) (by simp) ?_
        refine AllReadyH.cons (o := ⟨none, _, _, _, _, _⟩) rfl (fun K hK => ?_) AllReadyH.nil
        go_simp
        have ST2 := Lib.hid (ST1.out.set (a + dq))
        obtain ⟨_, _, _, _, ⟨t0, t1, t2, _, _, _, t3, t4⟩, _, _⟩ := ST2.out
        (refine hK.out _ _ ?_ (fun hHeld => ?_))
        · exact ⟨t0, t1, t2, t3, t4⟩
        clear hK K
        refine wpAnyH_done (by kernel_rfl) ?_ _
        exact key3 _ ST2
    · have ew : widN a hd = a := if_neg ha
      rw [ew] at hcl hst
      have hcl' := Lib.hid hcl
      have hst' := Lib.hid hst
      have w4 := IntWalk.i64_in (a - z) (by omega)
      have ST2 := ST
      generalize X = X2 at ST2 ⊢
      clear hcl hst ew x0 x1 x2 y0 y1 y2 q0 q1 f0 f1 f2 z0 z1 z2 k0' k1' k2'
      obtain ⟨D2, sX2, gX2, qX2, ⟨x0, x1, x2, y0, y1, y2, q0, q1⟩, ⟨f0, f1, f2⟩, ⟨z0, z1, z2, k0', k1', k2'⟩⟩ := ST2.out
      have ng1 : ¬ w.heap.size + 1 = g := by omega
      have ng2 : ¬ g = w.heap.size + 1 := by omega
      clear x0 x1 x2 q0 q1
      go_wp2_with (go_at_call 84; (first | (refine (minS_t a s _ z hcl'.out).mono ?_; rintro e4 W4 ⟨rfl, rfl⟩) | (refine (minS_t 1000 (a - z) _ a2 hst'.out).mono ?_; rintro e5 W5 ⟨rfl, rfl⟩)))
      have PZ := three_back (w := X2.setCell ⟨g, 0, none⟩ (.int .i64 a2)) (r := w.heap.size + 1) (v0 := .int .i64 a2) (v1 := .int .i64 b) (v2 := .int .i64 (c + inn)) ((World.cell?_setCell_other _ _ _ _ (fun e => ng2 (by injection e))).trans y0) ((World.cell?_setCell_other _ _ _ _ (fun e => ng2 (by injection e))).trans y1) ((World.cell?_setCell_other _ _ _ _ (fun e => ng2 (by injection e))).trans y2)
      have DZ : Below w.heap.size w ((((X2.setCell ⟨g, 0, none⟩ (.int .i64 a2)).setCell ⟨w.heap.size + 1, 0, none⟩ (.int .i64 a2)).setCell ⟨w.heap.size + 1, 1, none⟩ (.int .i64 b)).setCell ⟨w.heap.size + 1, 2, none⟩ (.int .i64 (c + inn))) := (by repeat (first | assumption | exact Below.refl _ _ | (refine Below.trans ?_ (D2.mono (by first | omega | (simp; done) | (simp; omega)))) | (refine Below.setCell ?_ (by first | omega | (simp; done) | (simp; omega)) _) | apply below_drewN | apply Below.drew | (refine Below.alloc ?_ (by first | omega | (simp; done) | (simp; omega)) _)))
      generalize ((((X2.setCell ⟨g, 0, none⟩ (.int .i64 a2)).setCell ⟨w.heap.size + 1, 0, none⟩ (.int .i64 a2)).setCell ⟨w.heap.size + 1, 1, none⟩ (.int .i64 b)).setCell ⟨w.heap.size + 1, 2, none⟩ (.int .i64 (c + inn))) = Z at PZ DZ ⊢
      obtain ⟨p0, p1, p2⟩ := PZ
      exact bodyPost_ret (v := .tuple #[.agg #[.int .i64 a2, .int .i64 b, .int .i64 (c + inn)], .int .i64 z]) (by simp [results, Tryd.results54, go_sem, p0, p1, p2]) rfl ⟨rfl, DZ⟩
  clear hK0
  refine wp_region_held_drew (S := fun w' => w'.cell? ⟨w.heap.size, 0, none⟩ = some (.int .i64 a) ∧ w'.cell? ⟨w.heap.size, 1, none⟩ = some (.int .i64 b) ∧ w'.cell? ⟨w.heap.size, 2, none⟩ = some (.int .i64 c) ∧ w'.cell? ⟨w.heap.size + 1, 0, none⟩ = some (.int .i64 0) ∧ w'.cell? ⟨w.heap.size + 1, 1, none⟩ = some (.int .i64 0) ∧ w'.cell? ⟨w.heap.size + 1, 2, none⟩ = some (.int .i64 0) ∧ w'.cell? ⟨q, 0, none⟩ = some (.slice A0 n0 k0) ∧ w'.cell? ⟨q, 1, none⟩ = some (.slice A1 n1 k1)) (by kernel_rfl) ⟨by first | (simp; done) | go_simp, by first | (simp; done) | go_simp, by first | (simp; done) | go_simp, by first | (simp; done) | go_simp, by first | (simp; done) | go_simp, by first | (simp; done) | go_simp, by first | (simp; done) | go_simp, by first | (simp; done) | go_simp⟩ (fun hHeld => ?_)
  ((refine wpAnyH_take (i := 0) (oi := ⟨some 12, _, _, _, _, _⟩) (v := ?_) rfl (by kernel_rfl) (by kernel_rfl) (by kernel_rfl) (fun _ _ _ h => h) (Or.inl ⟨by rfl, ?_⟩) (by assumption) ?_; rotate_left 1; (focus (intro w hSw; (try dsimp only at hSw); go_simp <;> try (first | (with_reducible rfl) | (rw [if_neg (by omega)]) | (rw [if_pos (by omega)])))); try simp only [Act.put, List.setIfInBounds_toArray, List.set_cons_zero, List.set_cons_succ]); (refine wpAnyH_take (i := 1) (oi := ⟨some 13, _, _, _, _, _⟩) (v := ?_) rfl (by kernel_rfl) (by kernel_rfl) (by kernel_rfl) (fun _ _ _ h => h) (Or.inl ⟨by rfl, ?_⟩) (by assumption) ?_; rotate_left 1; (focus (intro w hSw; (try dsimp only at hSw); go_simp <;> try (first | (with_reducible rfl) | (rw [if_neg (by omega)]) | (rw [if_pos (by omega)])))); try simp only [Act.put, List.setIfInBounds_toArray, List.set_cons_zero, List.set_cons_succ]); (refine wpAnyH_take (i := 2) (oi := ⟨some 14, _, _, _, _, _⟩) (v := ?_) rfl (by kernel_rfl) (by kernel_rfl) (by kernel_rfl) (fun _ _ _ h => h) (Or.inl ⟨by rfl, ?_⟩) (by assumption) ?_; rotate_left 1; (focus (intro w hSw; (try dsimp only at hSw); go_simp <;> try (first | (with_reducible rfl) | (rw [if_neg (by omega)]) | (rw [if_pos (by omega)])))); try simp only [Act.put, List.setIfInBounds_toArray, List.set_cons_zero, List.set_cons_succ]); (refine wpAnyH_take (i := 3) (oi := ⟨some 15, _, _, _, _, _⟩) (v := ?_) rfl (by kernel_rfl) (by kernel_rfl) (by kernel_rfl) (fun _ _ _ h => h) (Or.inl ⟨by rfl, ?_⟩) (by assumption) ?_; rotate_left 1; (focus (intro w hSw; (try dsimp only at hSw); go_simp <;> try (first | (with_reducible rfl) | (rw [if_neg (by omega)]) | (rw [if_pos (by omega)])))); try simp only [Act.put, List.setIfInBounds_toArray, List.set_cons_zero, List.set_cons_succ]); (refine wpAnyH_take (i := 4) (oi := ⟨some 16, _, _, _, _, _⟩) (v := ?_) rfl (by kernel_rfl) (by kernel_rfl) (by kernel_rfl) (fun _ _ _ h => h) (Or.inl ⟨by rfl, ?_⟩) (by assumption) ?_; rotate_left 1; (focus (intro w hSw; (try dsimp only at hSw); go_simp <;> try (first | (with_reducible rfl) | (rw [if_neg (by omega)]) | (rw [if_pos (by omega)])))); try simp only [Act.put, List.setIfInBounds_toArray, List.set_cons_zero, List.set_cons_succ]); (refine wpAnyH_take (i := 5) (oi := ⟨some 17, _, _, _, _, _⟩) (v := ?_) rfl (by kernel_rfl) (by kernel_rfl) (by kernel_rfl) (fun _ _ _ h => h) (Or.inl ⟨by rfl, ?_⟩) (by assumption) ?_; rotate_left 1; (focus (intro w hSw; (try dsimp only at hSw); go_simp <;> try (first | (with_reducible rfl) | (rw [if_neg (by omega)]) | (rw [if_pos (by omega)])))); try simp only [Act.put, List.setIfInBounds_toArray, List.set_cons_zero, List.set_cons_succ]); (refine wpAnyH_take (i := 6) (oi := ⟨some 18, _, _, _, _, _⟩) (v := ?_) rfl (by kernel_rfl) (by kernel_rfl) (by kernel_rfl) (fun _ _ _ h => h) (Or.inl ⟨by rfl, ?_⟩) (by assumption) ?_; rotate_left 1; (focus (intro w hSw; (try dsimp only at hSw); go_simp <;> try (first | (with_reducible rfl) | (rw [if_neg (by omega)]) | (rw [if_pos (by omega)])))); try simp only [Act.put, List.setIfInBounds_toArray, List.set_cons_zero, List.set_cons_succ]); (refine wpAnyH_take (i := 7) (oi := ⟨some 19, _, _, _, _, _⟩) (v := ?_) rfl (by kernel_rfl) (by kernel_rfl) (by kernel_rfl) (fun _ _ _ h => h) (Or.inl ⟨by rfl, ?_⟩) (by assumption) ?_; rotate_left 1; (focus (intro w hSw; (try dsimp only at hSw); go_simp <;> try (first | (with_reducible rfl) | (rw [if_neg (by omega)]) | (rw [if_pos (by omega)])))); try simp only [Act.put, List.setIfInBounds_toArray, List.set_cons_zero, List.set_cons_succ]); (refine wpAnyH_take (i := 8) (oi := ⟨some 20, _, _, _, _, _⟩) (v := ?_) rfl (by kernel_rfl) (by kernel_rfl) (by kernel_rfl) (fun _ _ _ h => h) (Or.inl ⟨by rfl, ?_⟩) (by assumption) ?_; rotate_left 1; (focus (intro w hSw; (try dsimp only at hSw); go_simp <;> try (first | (with_reducible rfl) | (rw [if_neg (by omega)]) | (rw [if_pos (by omega)])))); try simp only [Act.put, List.setIfInBounds_toArray, List.set_cons_zero, List.set_cons_succ]))
  refine wpAnyH_ready (rs := [9, 12]) (by kernel_rfl) (by simp) ?_
  refine AllReadyH.cons (o := ⟨some 21, _, _, _, _, _⟩) rfl (fun K hK => ?_) (AllReadyH.cons (o := ⟨some 10, _, _, _, _, _⟩) rfl (fun K hK => ?_) AllReadyH.nil)
  · go_simp
    refine (inflS_t q A0 n0 k0 ls A1 n1 k1 vs a b c y _ (by first | omega | (simp; done) | (simp; omega)) (HAT.out.below (B := w.heap.size) (by repeat (first | assumption | exact Below.refl _ _ | (refine Below.setCell ?_ (by first | omega | (simp; done) | (simp; omega)) _) | apply below_drewN | apply Below.drew | (refine Below.alloc ?_ (by first | omega | (simp; done) | (simp; omega)) _))) hq) hn0 hn1 ((RA.out.below (by repeat (first | assumption | exact Below.refl _ _ | (refine Below.setCell ?_ (by first | omega | (simp; done) | (simp; omega)) _) | apply below_drewN | apply Below.drew | (refine Below.alloc ?_ (by first | omega | (simp; done) | (simp; omega)) _)))).mono (by first | omega | (simp; done) | (simp; omega))) ((RB.out.below (by repeat (first | assumption | exact Below.refl _ _ | (refine Below.setCell ?_ (by first | omega | (simp; done) | (simp; omega)) _) | apply below_drewN | apply Below.drew | (refine Below.alloc ?_ (by first | omega | (simp; done) | (simp; omega)) _)))).mono (by first | omega | (simp; done) | (simp; omega))) HB.out HY.out inn HI.out).mono ?_
    rintro e0 V0 ⟨rfl, B0⟩
    have r0 := (B0.cell (p := ⟨w.heap.size, 0, none⟩) (by first | omega | (simp; done) | (simp; omega))).trans hHeld.1
    have r1 := (B0.cell (p := ⟨w.heap.size, 1, none⟩) (by first | omega | (simp; done) | (simp; omega))).trans hHeld.2.1
    have r2 := (B0.cell (p := ⟨w.heap.size, 2, none⟩) (by first | omega | (simp; done) | (simp; omega))).trans hHeld.2.2.1
    have r3 := (B0.cell (p := ⟨w.heap.size + 1, 0, none⟩) (by first | omega | (simp; done) | (simp; omega))).trans hHeld.2.2.2.1
    have r4 := (B0.cell (p := ⟨w.heap.size + 1, 1, none⟩) (by first | omega | (simp; done) | (simp; omega))).trans hHeld.2.2.2.2.1
    have r5 := (B0.cell (p := ⟨w.heap.size + 1, 2, none⟩) (by first | omega | (simp; done) | (simp; omega))).trans hHeld.2.2.2.2.2.1
    have r6 := (B0.cell (p := ⟨q, 0, none⟩) (by first | omega | (simp; done) | (simp; omega))).trans hHeld.2.2.2.2.2.2.1
    have r7 := (B0.cell (p := ⟨q, 1, none⟩) (by first | omega | (simp; done) | (simp; omega))).trans hHeld.2.2.2.2.2.2.2
    obtain ⟨kz, fz⟩ := bcell B0
    have fr : V0.frozen? ⟨w.heap.size + 1, 0, none⟩ = false ∧ V0.frozen? ⟨w.heap.size + 1, 1, none⟩ = false ∧ V0.frozen? ⟨w.heap.size + 1, 2, none⟩ = false := ⟨(by rw [fz _ _ (by first | omega | (simp; done) | (simp; omega))]; first | (simp; done) | go_simp), (by rw [fz _ _ (by first | omega | (simp; done) | (simp; omega))]; first | (simp; done) | go_simp), (by rw [fz _ _ (by first | omega | (simp; done) | (simp; omega))]; first | (simp; done) | go_simp)⟩
    have G0 : w.heap.size + 1 < V0.heap.size := (by have := B0.size; (try simp at this); omega)
    have D0 : Below w.heap.size w V0 := (by repeat (first | assumption | exact Below.refl _ _ | (refine Below.trans ?_ (B0.mono (by first | omega | (simp; done) | (simp; omega)))) | (refine Below.setCell ?_ (by first | omega | (simp; done) | (simp; omega)) _) | apply below_drewN | apply Below.drew | (refine Below.alloc ?_ (by first | omega | (simp; done) | (simp; omega)) _)))
    clear hHeld
    (refine hK.out _ _ ?_ (fun hHeld => ?_))
    · exact ⟨r0, r1, r2, r3, r4, r5, r6, r7⟩
    clear hK K
    ((refine wpAnyH_take (i := 10) (oi := ⟨some 22, _, _, _, _, _⟩) (v := ?_) rfl (by kernel_rfl) (by kernel_rfl) (by kernel_rfl) (fun _ _ _ h => h) (Or.inl ⟨by rfl, ?_⟩) (by assumption) ?_; rotate_left 1; (focus (intro w hSw; (try dsimp only at hSw); go_simp <;> try (first | (with_reducible rfl) | (rw [if_neg (by omega)]) | (rw [if_pos (by omega)])))); try simp only [Act.put, List.setIfInBounds_toArray, List.set_cons_zero, List.set_cons_succ]); (refine wpAnyH_take (i := 11) (oi := ⟨some 23, _, _, _, _, _⟩) (v := ?_) rfl (by kernel_rfl) (by kernel_rfl) (by kernel_rfl) (fun _ _ _ h => h) (Or.inl ⟨by rfl, ?_⟩) (by assumption) ?_; rotate_left 1; (focus (intro w hSw; (try dsimp only at hSw); go_simp <;> try (first | (with_reducible rfl) | (rw [if_neg (by omega)]) | (rw [if_pos (by omega)])))); try simp only [Act.put, List.setIfInBounds_toArray, List.set_cons_zero, List.set_cons_succ]))
    refine wpAnyH_ready (rs := [12]) (by kernel_rfl) (by simp) ?_
    refine AllReadyH.cons (o := ⟨some 10, _, _, _, _, _⟩) rfl (fun K hK => ?_) AllReadyH.nil
    go_simp
    have t0 := hHeld.1
    have t1 := hHeld.2.1
    have t2 := hHeld.2.2.1
    have t3 := hHeld.2.2.2.1
    have t4 := hHeld.2.2.2.2.1
    have t5 := hHeld.2.2.2.2.2.1
    have t6 := hHeld.2.2.2.2.2.2.1
    have t7 := hHeld.2.2.2.2.2.2.2
    clear hHeld
    (refine hK.out _ _ ?_ (fun hHeld => ?_))
    · exact ⟨((Below.alloc (Below.refl _ _) (Nat.le_refl _) _ : Below _ _ _).cell (p := ⟨w.heap.size, 0, none⟩) (by first | omega | (simp; done) | (simp; omega))).trans t0, ((Below.alloc (Below.refl _ _) (Nat.le_refl _) _ : Below _ _ _).cell (p := ⟨w.heap.size, 1, none⟩) (by first | omega | (simp; done) | (simp; omega))).trans t1, ((Below.alloc (Below.refl _ _) (Nat.le_refl _) _ : Below _ _ _).cell (p := ⟨w.heap.size, 2, none⟩) (by first | omega | (simp; done) | (simp; omega))).trans t2, ((Below.alloc (Below.refl _ _) (Nat.le_refl _) _ : Below _ _ _).cell (p := ⟨w.heap.size + 1, 0, none⟩) (by first | omega | (simp; done) | (simp; omega))).trans t3, ((Below.alloc (Below.refl _ _) (Nat.le_refl _) _ : Below _ _ _).cell (p := ⟨w.heap.size + 1, 1, none⟩) (by first | omega | (simp; done) | (simp; omega))).trans t4, ((Below.alloc (Below.refl _ _) (Nat.le_refl _) _ : Below _ _ _).cell (p := ⟨w.heap.size + 1, 2, none⟩) (by first | omega | (simp; done) | (simp; omega))).trans t5, ((Below.alloc (Below.refl _ _) (Nat.le_refl _) _ : Below _ _ _).cell (p := ⟨q, 0, none⟩) (by first | omega | (simp; done) | (simp; omega))).trans t6, ((Below.alloc (Below.refl _ _) (Nat.le_refl _) _ : Below _ _ _).cell (p := ⟨q, 1, none⟩) (by first | omega | (simp; done) | (simp; omega))).trans t7⟩
    clear hK K
    try simp only [Act.put, List.setIfInBounds_toArray, List.set_cons_zero, List.set_cons_succ]
    refine wpAnyH_ready (rs := [13]) (by kernel_rfl) (by simp) ?_
    refine AllReadyH.cons (o := ⟨none, _, _, _, _, _⟩) rfl (fun K hK => ?_) AllReadyH.nil
    go_simp
    (refine hK.out _ _ ?_ (fun hHeld => ?_))
    · exact ⟨((Below.alloc (Below.refl _ _) (Nat.le_refl _) _ : Below _ _ _).cell (p := ⟨w.heap.size, 0, none⟩) (by first | omega | (simp; done) | (simp; omega))).trans r0, ((Below.alloc (Below.refl _ _) (Nat.le_refl _) _ : Below _ _ _).cell (p := ⟨w.heap.size, 1, none⟩) (by first | omega | (simp; done) | (simp; omega))).trans r1, ((Below.alloc (Below.refl _ _) (Nat.le_refl _) _ : Below _ _ _).cell (p := ⟨w.heap.size, 2, none⟩) (by first | omega | (simp; done) | (simp; omega))).trans r2, ((Below.alloc (Below.refl _ _) (Nat.le_refl _) _ : Below _ _ _).cell (p := ⟨w.heap.size + 1, 0, none⟩) (by first | omega | (simp; done) | (simp; omega))).trans r3, ((Below.alloc (Below.refl _ _) (Nat.le_refl _) _ : Below _ _ _).cell (p := ⟨w.heap.size + 1, 1, none⟩) (by first | omega | (simp; done) | (simp; omega))).trans r4, ((Below.alloc (Below.refl _ _) (Nat.le_refl _) _ : Below _ _ _).cell (p := ⟨w.heap.size + 1, 2, none⟩) (by first | omega | (simp; done) | (simp; omega))).trans r5, ((Below.alloc (Below.refl _ _) (Nat.le_refl _) _ : Below _ _ _).cell (p := ⟨q, 0, none⟩) (by first | omega | (simp; done) | (simp; omega))).trans r6, ((Below.alloc (Below.refl _ _) (Nat.le_refl _) _ : Below _ _ _).cell (p := ⟨q, 1, none⟩) (by first | omega | (simp; done) | (simp; omega))).trans r7⟩
    clear hK K
    refine wpAnyH_done (by kernel_rfl) ?_ _
    have ST := Lib.hid (show StT w (V0.alloc (.cells #[.int .i64 a, .int .i64 b, .int .i64 (c + inn)] 32)) (V0.heap.size) q a b c a (c + inn) (.slice A0 n0 k0) (.slice A1 n1 k1) from ⟨(by repeat (first | assumption | exact Below.refl _ _ | (refine Below.trans ?_ (D0.mono (by first | omega | (simp; done) | (simp; omega)))) | (refine Below.setCell ?_ (by first | omega | (simp; done) | (simp; omega)) _) | apply below_drewN | apply Below.drew | (refine Below.alloc ?_ (by first | omega | (simp; done) | (simp; omega)) _))), (by first | omega | (simp; done) | (simp; omega)), (by first | omega | (simp; done) | (simp; omega)), (by first | omega | (simp; done) | (simp; omega)), ⟨(((Below.alloc (Below.refl _ _) (Nat.le_refl _) _ : Below _ _ _).cell (p := ⟨w.heap.size, 0, none⟩) (by first | omega | (simp; done) | (simp; omega))).trans r0), (((Below.alloc (Below.refl _ _) (Nat.le_refl _) _ : Below _ _ _).cell (p := ⟨w.heap.size, 1, none⟩) (by first | omega | (simp; done) | (simp; omega))).trans r1), (((Below.alloc (Below.refl _ _) (Nat.le_refl _) _ : Below _ _ _).cell (p := ⟨w.heap.size, 2, none⟩) (by first | omega | (simp; done) | (simp; omega))).trans r2), (((Below.alloc (Below.refl _ _) (Nat.le_refl _) _ : Below _ _ _).cell (p := ⟨w.heap.size + 1, 0, none⟩) (by first | omega | (simp; done) | (simp; omega))).trans r3), (((Below.alloc (Below.refl _ _) (Nat.le_refl _) _ : Below _ _ _).cell (p := ⟨w.heap.size + 1, 1, none⟩) (by first | omega | (simp; done) | (simp; omega))).trans r4), (((Below.alloc (Below.refl _ _) (Nat.le_refl _) _ : Below _ _ _).cell (p := ⟨w.heap.size + 1, 2, none⟩) (by first | omega | (simp; done) | (simp; omega))).trans r5), (((Below.alloc (Below.refl _ _) (Nat.le_refl _) _ : Below _ _ _).cell (p := ⟨q, 0, none⟩) (by first | omega | (simp; done) | (simp; omega))).trans r6), (((Below.alloc (Below.refl _ _) (Nat.le_refl _) _ : Below _ _ _).cell (p := ⟨q, 1, none⟩) (by first | omega | (simp; done) | (simp; omega))).trans r7)⟩, ⟨(((Below.alloc (Below.refl _ _) (Nat.le_refl _) _ : Below _ _ _).frozen (p := ⟨w.heap.size + 1, 0, none⟩) (by first | omega | (simp; done) | (simp; omega))).trans fr.1), (((Below.alloc (Below.refl _ _) (Nat.le_refl _) _ : Below _ _ _).frozen (p := ⟨w.heap.size + 1, 1, none⟩) (by first | omega | (simp; done) | (simp; omega))).trans fr.2.1), (((Below.alloc (Below.refl _ _) (Nat.le_refl _) _ : Below _ _ _).frozen (p := ⟨w.heap.size + 1, 2, none⟩) (by first | omega | (simp; done) | (simp; omega))).trans fr.2.2)⟩, ⟨by first | (simp; done) | go_simp, by first | (simp; done) | go_simp, by first | (simp; done) | go_simp, by first | (simp; done) | go_simp, by first | (simp; done) | go_simp, by first | (simp; done) | go_simp⟩⟩)
    clear r0 r1 r2 r3 r4 r5 r6 r7 kz fz fr G0 D0 B0 hHeld
    exact key _ _ ST
  · go_simp
    have t0 := hHeld.1
    have t1 := hHeld.2.1
    have t2 := hHeld.2.2.1
    have t3 := hHeld.2.2.2.1
    have t4 := hHeld.2.2.2.2.1
    have t5 := hHeld.2.2.2.2.2.1
    have t6 := hHeld.2.2.2.2.2.2.1
    have t7 := hHeld.2.2.2.2.2.2.2
    clear hHeld
    (refine hK.out _ _ ?_ (fun hHeld => ?_))
    · exact ⟨((Below.alloc (Below.refl _ _) (Nat.le_refl _) _ : Below _ _ _).cell (p := ⟨w.heap.size, 0, none⟩) (by first | omega | (simp; done) | (simp; omega))).trans t0, ((Below.alloc (Below.refl _ _) (Nat.le_refl _) _ : Below _ _ _).cell (p := ⟨w.heap.size, 1, none⟩) (by first | omega | (simp; done) | (simp; omega))).trans t1, ((Below.alloc (Below.refl _ _) (Nat.le_refl _) _ : Below _ _ _).cell (p := ⟨w.heap.size, 2, none⟩) (by first | omega | (simp; done) | (simp; omega))).trans t2, ((Below.alloc (Below.refl _ _) (Nat.le_refl _) _ : Below _ _ _).cell (p := ⟨w.heap.size + 1, 0, none⟩) (by first | omega | (simp; done) | (simp; omega))).trans t3, ((Below.alloc (Below.refl _ _) (Nat.le_refl _) _ : Below _ _ _).cell (p := ⟨w.heap.size + 1, 1, none⟩) (by first | omega | (simp; done) | (simp; omega))).trans t4, ((Below.alloc (Below.refl _ _) (Nat.le_refl _) _ : Below _ _ _).cell (p := ⟨w.heap.size + 1, 2, none⟩) (by first | omega | (simp; done) | (simp; omega))).trans t5, ((Below.alloc (Below.refl _ _) (Nat.le_refl _) _ : Below _ _ _).cell (p := ⟨q, 0, none⟩) (by first | omega | (simp; done) | (simp; omega))).trans t6, ((Below.alloc (Below.refl _ _) (Nat.le_refl _) _ : Below _ _ _).cell (p := ⟨q, 1, none⟩) (by first | omega | (simp; done) | (simp; omega))).trans t7⟩
    clear hK K
    try simp only [Act.put, List.setIfInBounds_toArray, List.set_cons_zero, List.set_cons_succ]
    refine wpAnyH_ready (rs := [9]) (by kernel_rfl) (by simp) ?_
    refine AllReadyH.cons (o := ⟨some 21, _, _, _, _, _⟩) rfl (fun K hK => ?_) AllReadyH.nil
    go_simp
    refine (inflS_t q A0 n0 k0 ls A1 n1 k1 vs a b c y _ (by first | omega | (simp; done) | (simp; omega)) (HAT.out.below (B := w.heap.size) (by repeat (first | assumption | exact Below.refl _ _ | (refine Below.setCell ?_ (by first | omega | (simp; done) | (simp; omega)) _) | apply below_drewN | apply Below.drew | (refine Below.alloc ?_ (by first | omega | (simp; done) | (simp; omega)) _))) hq) hn0 hn1 ((RA.out.below (by repeat (first | assumption | exact Below.refl _ _ | (refine Below.setCell ?_ (by first | omega | (simp; done) | (simp; omega)) _) | apply below_drewN | apply Below.drew | (refine Below.alloc ?_ (by first | omega | (simp; done) | (simp; omega)) _)))).mono (by first | omega | (simp; done) | (simp; omega))) ((RB.out.below (by repeat (first | assumption | exact Below.refl _ _ | (refine Below.setCell ?_ (by first | omega | (simp; done) | (simp; omega)) _) | apply below_drewN | apply Below.drew | (refine Below.alloc ?_ (by first | omega | (simp; done) | (simp; omega)) _)))).mono (by first | omega | (simp; done) | (simp; omega))) HB.out HY.out inn HI.out).mono ?_
    rintro e0 V0 ⟨rfl, B0⟩
    have r0 := (B0.cell (p := ⟨w.heap.size, 0, none⟩) (by first | omega | (simp; done) | (simp; omega))).trans hHeld.1
    have r1 := (B0.cell (p := ⟨w.heap.size, 1, none⟩) (by first | omega | (simp; done) | (simp; omega))).trans hHeld.2.1
    have r2 := (B0.cell (p := ⟨w.heap.size, 2, none⟩) (by first | omega | (simp; done) | (simp; omega))).trans hHeld.2.2.1
    have r3 := (B0.cell (p := ⟨w.heap.size + 1, 0, none⟩) (by first | omega | (simp; done) | (simp; omega))).trans hHeld.2.2.2.1
    have r4 := (B0.cell (p := ⟨w.heap.size + 1, 1, none⟩) (by first | omega | (simp; done) | (simp; omega))).trans hHeld.2.2.2.2.1
    have r5 := (B0.cell (p := ⟨w.heap.size + 1, 2, none⟩) (by first | omega | (simp; done) | (simp; omega))).trans hHeld.2.2.2.2.2.1
    have r6 := (B0.cell (p := ⟨q, 0, none⟩) (by first | omega | (simp; done) | (simp; omega))).trans hHeld.2.2.2.2.2.2.1
    have r7 := (B0.cell (p := ⟨q, 1, none⟩) (by first | omega | (simp; done) | (simp; omega))).trans hHeld.2.2.2.2.2.2.2
    obtain ⟨kz, fz⟩ := bcell B0
    have fr : V0.frozen? ⟨w.heap.size + 1, 0, none⟩ = false ∧ V0.frozen? ⟨w.heap.size + 1, 1, none⟩ = false ∧ V0.frozen? ⟨w.heap.size + 1, 2, none⟩ = false := ⟨(by rw [fz _ _ (by first | omega | (simp; done) | (simp; omega))]; first | (simp; done) | go_simp), (by rw [fz _ _ (by first | omega | (simp; done) | (simp; omega))]; first | (simp; done) | go_simp), (by rw [fz _ _ (by first | omega | (simp; done) | (simp; omega))]; first | (simp; done) | go_simp)⟩
    have G0 : w.heap.size + 2 < V0.heap.size := (by have := B0.size; (try simp at this); omega)
    have D0 : Below w.heap.size w V0 := (by repeat (first | assumption | exact Below.refl _ _ | (refine Below.trans ?_ (B0.mono (by first | omega | (simp; done) | (simp; omega)))) | (refine Below.setCell ?_ (by first | omega | (simp; done) | (simp; omega)) _) | apply below_drewN | apply Below.drew | (refine Below.alloc ?_ (by first | omega | (simp; done) | (simp; omega)) _)))
    have o0 : V0.cell? ⟨w.heap.size + 1 + 1, 0, none⟩ = some (.int .i64 0) := (by rw [kz _ _ (by first | omega | (simp; done) | (simp; omega))]; first | (simp; done) | go_simp); have of0 : V0.frozen? ⟨w.heap.size + 1 + 1, 0, none⟩ = false := (by rw [fz _ _ (by first | omega | (simp; done) | (simp; omega))]; first | (simp; done) | go_simp); have o1 : V0.cell? ⟨w.heap.size + 1 + 1, 1, none⟩ = some (.int .i64 0) := (by rw [kz _ _ (by first | omega | (simp; done) | (simp; omega))]; first | (simp; done) | go_simp); have of1 : V0.frozen? ⟨w.heap.size + 1 + 1, 1, none⟩ = false := (by rw [fz _ _ (by first | omega | (simp; done) | (simp; omega))]; first | (simp; done) | go_simp); have o2 : V0.cell? ⟨w.heap.size + 1 + 1, 2, none⟩ = some (.int .i64 0) := (by rw [kz _ _ (by first | omega | (simp; done) | (simp; omega))]; first | (simp; done) | go_simp); have of2 : V0.frozen? ⟨w.heap.size + 1 + 1, 2, none⟩ = false := (by rw [fz _ _ (by first | omega | (simp; done) | (simp; omega))]; first | (simp; done) | go_simp)
    clear hHeld
    (refine hK.out _ _ ?_ (fun hHeld => ?_))
    · exact ⟨r0, r1, r2, r3, r4, r5, r6, r7⟩
    clear hK K
    ((refine wpAnyH_take (i := 10) (oi := ⟨some 22, _, _, _, _, _⟩) (v := ?_) rfl (by kernel_rfl) (by kernel_rfl) (by kernel_rfl) (fun _ _ _ h => h) (Or.inl ⟨by rfl, ?_⟩) (by assumption) ?_; rotate_left 1; (focus (intro w hSw; (try dsimp only at hSw); go_simp <;> try (first | (with_reducible rfl) | (rw [if_neg (by omega)]) | (rw [if_pos (by omega)])))); try simp only [Act.put, List.setIfInBounds_toArray, List.set_cons_zero, List.set_cons_succ]); (refine wpAnyH_take (i := 11) (oi := ⟨some 23, _, _, _, _, _⟩) (v := ?_) rfl (by kernel_rfl) (by kernel_rfl) (by kernel_rfl) (fun _ _ _ h => h) (Or.inl ⟨by rfl, ?_⟩) (by assumption) ?_; rotate_left 1; (focus (intro w hSw; (try dsimp only at hSw); go_simp <;> try (first | (with_reducible rfl) | (rw [if_neg (by omega)]) | (rw [if_pos (by omega)])))); try simp only [Act.put, List.setIfInBounds_toArray, List.set_cons_zero, List.set_cons_succ]))
    refine wpAnyH_ready (rs := [13]) (by kernel_rfl) (by simp) ?_
    refine AllReadyH.cons (o := ⟨none, _, _, _, _, _⟩) rfl (fun K hK => ?_) AllReadyH.nil
    go_simp
    have u0 := hHeld.1
    have u1 := hHeld.2.1
    have u2 := hHeld.2.2.1
    have u3 := hHeld.2.2.2.1
    have u4 := hHeld.2.2.2.2.1
    have u5 := hHeld.2.2.2.2.2.1
    have u6 := hHeld.2.2.2.2.2.2.1
    have u7 := hHeld.2.2.2.2.2.2.2
    (refine hK.out _ _ ?_ (fun hHeld => ?_))
    · exact ⟨by first | (simp; done) | go_simp, by first | (simp; done) | go_simp, by first | (simp; done) | go_simp, by first | (simp; done) | go_simp, by first | (simp; done) | go_simp, by first | (simp; done) | go_simp, by first | (simp; done) | go_simp, by first | (simp; done) | go_simp⟩
    clear hK K
    refine wpAnyH_done (by kernel_rfl) ?_ _
    have ST := Lib.hid (show StT w (((V0.setCell ⟨w.heap.size + 1 + 1, 0, none⟩ (.int .i64 a)).setCell ⟨w.heap.size + 1 + 1, 1, none⟩ (.int .i64 b)).setCell ⟨w.heap.size + 1 + 1, 2, none⟩ (.int .i64 (c + inn))) (w.heap.size + 1 + 1) q a b c a (c + inn) (.slice A0 n0 k0) (.slice A1 n1 k1) from ⟨(by repeat (first | assumption | exact Below.refl _ _ | (refine Below.trans ?_ (D0.mono (by first | omega | (simp; done) | (simp; omega)))) | (refine Below.setCell ?_ (by first | omega | (simp; done) | (simp; omega)) _) | apply below_drewN | apply Below.drew | (refine Below.alloc ?_ (by first | omega | (simp; done) | (simp; omega)) _))), (by first | omega | (simp; done) | (simp; omega)), (by first | omega | (simp; done) | (simp; omega)), (by first | omega | (simp; done) | (simp; omega)), ⟨(by first | (simp; done) | go_simp), (by first | (simp; done) | go_simp), (by first | (simp; done) | go_simp), (by first | (simp; done) | go_simp), (by first | (simp; done) | go_simp), (by first | (simp; done) | go_simp), (by first | (simp; done) | go_simp), (by first | (simp; done) | go_simp)⟩, ⟨(by simp [fr.1]), (by simp [fr.2.1]), (by simp [fr.2.2])⟩, ⟨by first | (simp; done) | go_simp, by first | (simp; done) | go_simp, by first | (simp; done) | go_simp, by first | (simp; done) | go_simp, by first | (simp; done) | go_simp, by first | (simp; done) | go_simp⟩⟩)
    clear r0 r1 r2 r3 r4 r5 r6 r7 kz fz fr G0 D0 B0 hHeld o0 of0 o1 of1 o2 of2 u0 u1 u2 u3 u4 u5 u6 u7
    exact key _ _ ST


end Go.Proofs.YtckhfkgldemcnaaDoor
