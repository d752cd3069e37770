import Derived.Test.YtfpfmfhhcgafcaaWatT
import Derived.Test.YtfpfmfhhcgafcaaFracW
import Derived.Test.YtfpfmfhhcgafcaaOut
namespace Go.Proofs.Ytfpfmfhhcgafcaa
open Go.RowKit

def outW (x : RWater) : Int := x.f2 + x.f3 + x.f4
def psW (xs : List RWater) (n : Nat) : Prop := waList n xs ∧ outW (sumW xs n) ≠ 0
instance (xs : List RWater) (n : Nat) : Decidable (psW xs n) := by unfold psW; exact inferInstance
def r0_PumpedShare (xa0 : List RWater) : Int := if psW xa0 xa0.length then fnum (sumW xa0 xa0.length).f3 (outW (sumW xa0 xa0.length)) else 0
def r1_PumpedShare (xa0 : List RWater) : Int := if psW xa0 xa0.length then fden (sumW xa0 xa0.length).f3 (outW (sumW xa0 xa0.length)) else 0
def r2_PumpedShare (xa0 : List RWater) : Int := if waList xa0.length xa0 then (if outW (sumW xa0 xa0.length) = 0 then 3 else 0) else wcode xa0.length xa0 True
theorem ps_fin0 {w W2 : World} {v0 v1 o0 o1 : Value} (d2 : Below w.heap.size w W2) (q2 : w.heap.size < W2.heap.size) (h0 : W2.cell? ⟨w.heap.size, 0, none⟩ = some o0) (h1 : W2.cell? ⟨w.heap.size, 1, none⟩ = some o1) (Z : World) (hZ : Z = (W2.setCell ⟨w.heap.size, 0, none⟩ v0).setCell ⟨w.heap.size, 1, none⟩ v1) :
    Z.cell? ⟨w.heap.size, 0, none⟩ = some v0 ∧ Z.cell? ⟨w.heap.size, 1, none⟩ = some v1 ∧ Below w.heap.size w Z := by
  have c : ∀ {W : World} {i : Nat} (j : Nat) {o : Value} (v : Value), W.cell? ⟨w.heap.size, i, none⟩ = some o → (W.setCell ⟨w.heap.size, j, none⟩ v).cell? ⟨w.heap.size, i, none⟩ = some (if i = j then v else o) := fun {W i} j {o} v h => cell5 j v h
  subst hZ
  refine ⟨?_, ?_, ?_⟩
  · simpa using c 1 v1 (c 0 v0 h0)
  · simpa using c 1 v1 (c 0 v0 h1)
  · exact (d2.setCell (Nat.le_refl _) _).setCell (Nat.le_refl _) _
theorem ps_fin {w W2 : World} {v0 v1 o0 o1 : Value} (X : Obj) (d2 : Below w.heap.size w W2) (q2 : w.heap.size < W2.heap.size) (h0 : W2.cell? ⟨w.heap.size, 0, none⟩ = some o0) (h1 : W2.cell? ⟨w.heap.size, 1, none⟩ = some o1) (Z : World) (hZ : Z = ((W2.setCell ⟨w.heap.size, 0, none⟩ v0).setCell ⟨w.heap.size, 1, none⟩ v1).alloc X) :
    Z.cell? ⟨w.heap.size, 0, none⟩ = some v0 ∧ Z.cell? ⟨w.heap.size, 1, none⟩ = some v1 ∧ Below w.heap.size w Z := by
  obtain ⟨W, hW⟩ : ∃ W, W = (W2.setCell ⟨w.heap.size, 0, none⟩ v0).setCell ⟨w.heap.size, 1, none⟩ v1 := ⟨_, rfl⟩
  obtain ⟨p0, p1, p2⟩ := ps_fin0 d2 q2 h0 h1 W hW
  have hs : w.heap.size < W.heap.size := by rw [hW]; simpa [World.setCell] using q2
  rw [← hW] at hZ
  subst hZ
  have A : Below W.heap.size W (W.alloc X) := Below.alloc (Below.refl _ _) (Nat.le_refl _) _
  exact ⟨(A.cell (p := ⟨w.heap.size, 0, none⟩) hs).trans p0, (A.cell (p := ⟨w.heap.size, 1, none⟩) hs).trans p1, p2.trans (A.mono (Nat.le_of_lt hs))⟩

set_option maxHeartbeats 1600000 in
theorem specC_PumpedShare (a0 : Option Addr) (la0 ca0 : Nat) (xa0 : List RWater) (w : World) (ha0 : la0 ≤ 1048576) (ra0 : Rd_Water w w.heap.size a0 la0 xa0) (fa0 : Wf_Water xa0) :
    Calls Try.prog 38 #[.slice a0 la0 ca0] w fun e w' => e = .returned (.tuple #[.agg #[.int .i64 (r0_PumpedShare xa0), .int .i64 (r1_PumpedShare xa0)], .int .i64 (r2_PumpedShare xa0)]) ∧ Below w.heap.size w w' := by
  have hln := ra0.len
  have RA := Lib.hid ra0
  clear ra0
  by_cases h : waList la0 xa0
  · have HL := Lib.hid (wcode_ok (P := True) h trivial)
    have HV := Lib.hid h
    have hbd2 := sumW_bd h.1 la0 (Nat.le_refl _)
    have h100 := h.2
    by_cases g : outW (sumW xa0 la0) = 0
    · have e0 : r0_PumpedShare xa0 = 0 := by unfold r0_PumpedShare; rw [hln, if_neg (fun x => x.2 g)]
      have e1 : r1_PumpedShare xa0 = 0 := by unfold r1_PumpedShare; rw [hln, if_neg (fun x => x.2 g)]
      have e2 : r2_PumpedShare xa0 = 3 := by unfold r2_PumpedShare; rw [hln, if_pos h, if_pos g]
      rw [e0, e1, e2]
      obtain ⟨t, ht⟩ : ∃ t, t = sumW xa0 la0 := ⟨_, rfl⟩
      rw [← ht] at hbd2 g
      obtain ⟨t0, t1, t2, t3, t4⟩ := t
      have HT := Lib.hid ht
      simp only at hbd2
      have g' : t2 + t3 + t4 = 0 := g
      have z2 : t2 = 0 := by omega
      have z3 : t3 = 0 := by omega
      have z4 : t4 = 0 := by omega
      subst z2 z3 z4
      have HB := Lib.hid (show 0 ≤ (0 : Int) ∧ (0 : Int) ≤ 10000000000 ∧ 0 ≤ (0 : Int) ∧ (0 : Int) ≤ 10000000000 ∧ 0 ≤ (0 : Int) ∧ (0 : Int) ≤ 10000000000 by omega)
      have H0 := Lib.hid (show (0 : Int) = 0 + 0 + 0 by omega)
      clear e0 e1 e2 h ht hbd2 g g'
      go_enter Try.func38, Try.ntmps38
      go_wp2_with (first | (go_at_call 48; refine (l13List_t _ _ _ xa0 _ ha0 ((RA.out.below (by repeat (first | assumption | exact Below.refl _ _ | (refine Below.setCell ?_ (by first | omega | (simp; done) | (simp; omega)) _) | apply below_drewN | apply Below.drew | (refine Below.alloc ?_ (by first | omega | (simp; done) | (simp; omega)) _)))).mono (by first | omega | (simp; done) | (simp; omega))) 0 HL.out).mono ?_; rintro e1 w1 ⟨rfl, rfl⟩) | (go_at_call 49; refine (sumS_t _ _ _ xa0 _ ha0 ((RA.out.below (by repeat (first | assumption | exact Below.refl _ _ | (refine Below.setCell ?_ (by first | omega | (simp; done) | (simp; omega)) _) | apply below_drewN | apply Below.drew | (refine Below.alloc ?_ (by first | omega | (simp; done) | (simp; omega)) _)))).mono (by first | omega | (simp; done) | (simp; omega))) HV.out t0 t1 0 0 0 HT.out).mono ?_; rintro e2 W2 ⟨rfl, b2⟩; have q2 : w.heap.size < W2.heap.size := (by have := b2.size; (try simp at this); omega); have d2 : Below w.heap.size w W2 := (by repeat (first | assumption | exact Below.refl _ _ | (refine Below.trans ?_ (b2.mono (by first | omega | (simp; done) | (simp; omega)))) | (refine Below.setCell ?_ (by first | omega | (simp; done) | (simp; omega)) _) | apply below_drewN | apply Below.drew | (refine Below.alloc ?_ (by first | omega | (simp; done) | (simp; omega)) _))); obtain ⟨k2, f2⟩ := bcell b2; have y0 : W2.cell? ⟨w.heap.size, 0, none⟩ = some (.int .i64 0) := (by rw [k2 _ _ (by first | omega | (simp; done) | (simp; omega))]; first | (simp; done) | go_simp); have yf0 : W2.frozen? ⟨w.heap.size, 0, none⟩ = false := (by rw [f2 _ _ (by first | omega | (simp; done) | (simp; omega))]; first | (simp; done) | go_simp); have y1 : W2.cell? ⟨w.heap.size, 1, none⟩ = some (.int .i64 0) := (by rw [k2 _ _ (by first | omega | (simp; done) | (simp; omega))]; first | (simp; done) | go_simp); have yf1 : W2.frozen? ⟨w.heap.size, 1, none⟩ = false := (by rw [f2 _ _ (by first | omega | (simp; done) | (simp; omega))]; first | (simp; done) | go_simp); clear k2 f2))
      obtain ⟨Z, hZ⟩ : ∃ Z, Z = (((W2.setCell ⟨w.heap.size, 0, none⟩ (.int .i64 0)).setCell ⟨w.heap.size, 1, none⟩ (.int .i64 0))).alloc (.cells #[.int .i64 t0, .int .i64 t1, .int .i64 0, .int .i64 0, .int .i64 0] 25) := ⟨_, rfl⟩
      have PZ := ps_fin _ d2 q2 y0 y1 Z hZ
      rw [← hZ]
      clear hZ
      obtain ⟨p0, p1, DZ⟩ := PZ
      exact bodyPost_ret (v := .tuple #[.agg #[.int .i64 0, .int .i64 0], .int .i64 3]) (by simp [results, Try.results38, go_sem, p0, p1]) rfl ⟨rfl, DZ⟩
    · have e0 : r0_PumpedShare xa0 = fnum (sumW xa0 la0).f3 (outW (sumW xa0 la0)) := by unfold r0_PumpedShare; rw [hln, if_pos ⟨h, g⟩]
      have e1 : r1_PumpedShare xa0 = fden (sumW xa0 la0).f3 (outW (sumW xa0 la0)) := by unfold r1_PumpedShare; rw [hln, if_pos ⟨h, g⟩]
      have e2 : r2_PumpedShare xa0 = 0 := by unfold r2_PumpedShare; rw [hln, if_pos h, if_neg g]
      rw [e0, e1, e2]
      obtain ⟨t, ht⟩ : ∃ t, t = sumW xa0 la0 := ⟨_, rfl⟩
      rw [← ht] at hbd2 g
      rw [← ht]
      obtain ⟨t0, t1, t2, t3, t4⟩ := t
      have HT := Lib.hid ht
      obtain ⟨_, _, ⟨b1, b2⟩, ⟨b3, b4⟩, b5, b6⟩ := hbd2
      simp only at b1 b2 b3 b4 b5 b6
      have HB := Lib.hid (show 0 ≤ t2 ∧ t2 ≤ 10000000000 ∧ 0 ≤ t3 ∧ t3 ≤ 10000000000 ∧ 0 ≤ t4 ∧ t4 ≤ 10000000000 by omega)
      have g' : ¬ t2 + t3 + t4 = 0 := g
      rw [show outW ⟨t0, t1, t2, t3, t4⟩ = t2 + t3 + t4 from rfl]
      rw [show (⟨t0, t1, t2, t3, t4⟩ : RWater).f3 = t3 from rfl]
      clear e0 e1 e2 h ht g
      go_enter Try.func38, Try.ntmps38
      go_wp2_with (first | (go_at_call 48; refine (l13List_t _ _ _ xa0 _ ha0 ((RA.out.below (by repeat (first | assumption | exact Below.refl _ _ | (refine Below.setCell ?_ (by first | omega | (simp; done) | (simp; omega)) _) | apply below_drewN | apply Below.drew | (refine Below.alloc ?_ (by first | omega | (simp; done) | (simp; omega)) _)))).mono (by first | omega | (simp; done) | (simp; omega))) 0 HL.out).mono ?_; rintro e1 w1 ⟨rfl, rfl⟩) | (go_at_call 49; refine (sumS_t _ _ _ xa0 _ ha0 ((RA.out.below (by repeat (first | assumption | exact Below.refl _ _ | (refine Below.setCell ?_ (by first | omega | (simp; done) | (simp; omega)) _) | apply below_drewN | apply Below.drew | (refine Below.alloc ?_ (by first | omega | (simp; done) | (simp; omega)) _)))).mono (by first | omega | (simp; done) | (simp; omega))) HV.out t0 t1 t2 t3 t4 HT.out).mono ?_; rintro e2 W2 ⟨rfl, b2⟩; have q2 : w.heap.size < W2.heap.size := (by have := b2.size; (try simp at this); omega); have d2 : Below w.heap.size w W2 := (by repeat (first | assumption | exact Below.refl _ _ | (refine Below.trans ?_ (b2.mono (by first | omega | (simp; done) | (simp; omega)))) | (refine Below.setCell ?_ (by first | omega | (simp; done) | (simp; omega)) _) | apply below_drewN | apply Below.drew | (refine Below.alloc ?_ (by first | omega | (simp; done) | (simp; omega)) _))); obtain ⟨k2, f2⟩ := bcell b2; have y0 : W2.cell? ⟨w.heap.size, 0, none⟩ = some (.int .i64 0) := (by rw [k2 _ _ (by first | omega | (simp; done) | (simp; omega))]; first | (simp; done) | go_simp); have yf0 : W2.frozen? ⟨w.heap.size, 0, none⟩ = false := (by rw [f2 _ _ (by first | omega | (simp; done) | (simp; omega))]; first | (simp; done) | go_simp); have y1 : W2.cell? ⟨w.heap.size, 1, none⟩ = some (.int .i64 0) := (by rw [k2 _ _ (by first | omega | (simp; done) | (simp; omega))]; first | (simp; done) | go_simp); have yf1 : W2.frozen? ⟨w.heap.size, 1, none⟩ = false := (by rw [f2 _ _ (by first | omega | (simp; done) | (simp; omega))]; first | (simp; done) | go_simp); clear k2 f2) | (go_at_call 62; refine (spec_make t3 (t2 + t3 + t4) _ (by omega) (by omega) (by omega) (by omega)).mono ?_; rintro e4 W4 ⟨rfl, b4⟩; have q4 : w.heap.size < W4.heap.size := (by have := b4.size; (try simp at this); omega); obtain ⟨k4, f4⟩ := bcell b4; have u0 : W4.cell? ⟨w.heap.size, 0, none⟩ = some (.int .i64 0) := (by rw [k4 _ _ (by first | omega | (simp; done) | (simp; omega))]; first | (simp; done) | go_simp); have uf0 : W4.frozen? ⟨w.heap.size, 0, none⟩ = false := (by rw [f4 _ _ (by first | omega | (simp; done) | (simp; omega))]; first | (simp; done) | go_simp); have u1 : W4.cell? ⟨w.heap.size, 1, none⟩ = some (.int .i64 0) := (by rw [k4 _ _ (by first | omega | (simp; done) | (simp; omega))]; first | (simp; done) | go_simp); have uf1 : W4.frozen? ⟨w.heap.size, 1, none⟩ = false := (by rw [f4 _ _ (by first | omega | (simp; done) | (simp; omega))]; first | (simp; done) | go_simp); clear k4 f4; have d4 : Below w.heap.size w W4 := (by repeat (first | assumption | exact Below.refl _ _ | (refine Below.trans ?_ (b4.mono (by first | omega | (simp; done) | (simp; omega)))) | (refine Below.trans ?_ (d2.mono (by first | omega | (simp; done) | (simp; omega)))) | (refine Below.setCell ?_ (by first | omega | (simp; done) | (simp; omega)) _) | apply below_drewN | apply Below.drew | (refine Below.alloc ?_ (by first | omega | (simp; done) | (simp; omega)) _)))))
      obtain ⟨Z, hZ⟩ : ∃ Z, Z = (W4.setCell ⟨w.heap.size, 0, none⟩ (.int .i64 (fnum t3 (t2 + t3 + t4)))).setCell ⟨w.heap.size, 1, none⟩ (.int .i64 (fden t3 (t2 + t3 + t4))) := ⟨_, rfl⟩
      have PZ := ps_fin0 d4 (by omega) u0 u1 Z hZ
      rw [← hZ]
      clear hZ
      obtain ⟨p0, p1, DZ⟩ := PZ
      exact bodyPost_ret (v := .tuple #[.agg #[.int .i64 (fnum t3 (t2 + t3 + t4)), .int .i64 (fden t3 (t2 + t3 + t4))], .int .i64 0]) (by simp [results, Try.results38, go_sem, p0, p1]) rfl ⟨rfl, DZ⟩
  · have e0 : r0_PumpedShare xa0 = 0 := by unfold r0_PumpedShare; rw [hln, if_neg (fun g => h g.1)]
    have e1 : r1_PumpedShare xa0 = 0 := by unfold r1_PumpedShare; rw [hln, if_neg (fun g => h g.1)]
    have e2 : r2_PumpedShare xa0 = wcode la0 xa0 True := by unfold r2_PumpedShare; rw [hln, if_neg h]
    rw [e0, e1, e2]
    have e6 := wcode_ne (P := True) (fun g => h g.1)
    obtain ⟨C, hC⟩ : ∃ C, wcode la0 xa0 True = C := ⟨_, rfl⟩
    have HL := Lib.hid hC
    rw [hC] at e6 ⊢
    clear e0 e1 e2 h hC
    go_enter Try.func38, Try.ntmps38
    go_wp2_with (first | (go_at_call 48; refine (l13List_t _ _ _ xa0 _ ha0 ((RA.out.below (by repeat (first | assumption | exact Below.refl _ _ | (refine Below.setCell ?_ (by first | omega | (simp; done) | (simp; omega)) _) | apply below_drewN | apply Below.drew | (refine Below.alloc ?_ (by first | omega | (simp; done) | (simp; omega)) _)))).mono (by first | omega | (simp; done) | (simp; omega))) C HL.out).mono ?_; rintro e1 w1 ⟨rfl, rfl⟩))
    exact bodyPost_ret (v := .tuple #[.agg #[.int .i64 0, .int .i64 0], .int .i64 C]) (by simp [results, Try.results38, go_sem]) rfl ⟨rfl, (by repeat (first | assumption | exact Below.refl _ _ | (refine Below.setCell ?_ (by first | omega | (simp; done) | (simp; omega)) _) | apply below_drewN | apply Below.drew | (refine Below.alloc ?_ (by first | omega | (simp; done) | (simp; omega)) _)))⟩

set_option maxHeartbeats 1600000 in
theorem implC_PumpedShare (a0 : Option Addr) (la0 ca0 : Nat) (xa0 : List RWater) (w : World) (ha0 : la0 ≤ 1048576) (ra0 : Rd_Water w w.heap.size a0 la0 xa0) (fa0 : Wf_Water xa0) :
    Calls Try.prog 39 #[.slice a0 la0 ca0] w fun e w' => e = .returned (.tuple #[.agg #[.int .i64 (r0_PumpedShare xa0), .int .i64 (r1_PumpedShare xa0)], .int .i64 (r2_PumpedShare xa0)]) ∧ Below w.heap.size w w' := by
  have hln := ra0.len
  have RA := Lib.hid ra0
  clear ra0
  by_cases h : waList la0 xa0
  · have HL := Lib.hid (wcode_ok (P := True) h trivial)
    have HV := Lib.hid h
    have hbd2 := sumW_bd h.1 la0 (Nat.le_refl _)
    have h100 := h.2
    by_cases g : outW (sumW xa0 la0) = 0
    · have e0 : r0_PumpedShare xa0 = 0 := by unfold r0_PumpedShare; rw [hln, if_neg (fun x => x.2 g)]
      have e1 : r1_PumpedShare xa0 = 0 := by unfold r1_PumpedShare; rw [hln, if_neg (fun x => x.2 g)]
      have e2 : r2_PumpedShare xa0 = 3 := by unfold r2_PumpedShare; rw [hln, if_pos h, if_pos g]
      rw [e0, e1, e2]
      obtain ⟨t, ht⟩ : ∃ t, t = sumW xa0 la0 := ⟨_, rfl⟩
      rw [← ht] at hbd2 g
      obtain ⟨t0, t1, t2, t3, t4⟩ := t
      have HT := Lib.hid ht
      simp only at hbd2
      have g' : t2 + t3 + t4 = 0 := g
      have z2 : t2 = 0 := by omega
      have z3 : t3 = 0 := by omega
      have z4 : t4 = 0 := by omega
      subst z2 z3 z4
      have HB := Lib.hid (show 0 ≤ (0 : Int) ∧ (0 : Int) ≤ 10000000000 ∧ 0 ≤ (0 : Int) ∧ (0 : Int) ≤ 10000000000 ∧ 0 ≤ (0 : Int) ∧ (0 : Int) ≤ 10000000000 by omega)
      have H0 := Lib.hid (show (0 : Int) = 0 + 0 + 0 by omega)
      clear e0 e1 e2 h ht hbd2 g g'
      go_enter Try.func39, Try.ntmps39
      go_wp2_with (first | (go_at_call 50; refine (runCode_t _ _ _ xa0 true True _ ha0 ((RA.out.below (by repeat (first | assumption | exact Below.refl _ _ | (refine Below.setCell ?_ (by first | omega | (simp; done) | (simp; omega)) _) | apply below_drewN | apply Below.drew | (refine Below.alloc ?_ (by first | omega | (simp; done) | (simp; omega)) _)))).mono (by first | omega | (simp; done) | (simp; omega))) rfl 0 HL.out).mono ?_; rintro e1 W1 ⟨rfl, b1⟩; have hz1 : w.heap.size < W1.heap.size := (by have := b1.size; simp at this; omega); have d1 : Below w.heap.size w W1 := (by repeat (first | assumption | exact Below.refl _ _ | (refine Below.trans ?_ (b1.mono (by first | omega | (simp; done) | (simp; omega)))) | (refine Below.setCell ?_ (by first | omega | (simp; done) | (simp; omega)) _) | apply below_drewN | apply Below.drew | (refine Below.alloc ?_ (by first | omega | (simp; done) | (simp; omega)) _))); obtain ⟨k1, f1⟩ := bcell b1; have z0 : W1.cell? ⟨w.heap.size, 0, none⟩ = some (.int .i64 0) := (by rw [k1 _ _ (by first | omega | (simp; done) | (simp; omega))]; first | (simp; done) | go_simp); have zf0 : W1.frozen? ⟨w.heap.size, 0, none⟩ = false := (by rw [f1 _ _ (by first | omega | (simp; done) | (simp; omega))]; first | (simp; done) | go_simp); have z1 : W1.cell? ⟨w.heap.size, 1, none⟩ = some (.int .i64 0) := (by rw [k1 _ _ (by first | omega | (simp; done) | (simp; omega))]; first | (simp; done) | go_simp); have zf1 : W1.frozen? ⟨w.heap.size, 1, none⟩ = false := (by rw [f1 _ _ (by first | omega | (simp; done) | (simp; omega))]; first | (simp; done) | go_simp); clear k1 f1) | (go_at_call 51; refine (sumI_t _ _ _ xa0 _ ha0 ((RA.out.below d1).mono d1.size) HV.out t0 t1 0 0 0 HT.out).mono ?_; rintro e2 W2 ⟨rfl, b2⟩; have q2 : w.heap.size < W2.heap.size := (by have := b2.size; (try simp at this); omega); have d2 : Below w.heap.size w W2 := (by repeat (first | assumption | exact Below.refl _ _ | (refine Below.trans ?_ (b2.mono (by first | omega | (simp; done) | (simp; omega)))) | (refine Below.trans ?_ (d1.mono (by first | omega | (simp; done) | (simp; omega)))) | (refine Below.setCell ?_ (by first | omega | (simp; done) | (simp; omega)) _) | apply below_drewN | apply Below.drew | (refine Below.alloc ?_ (by first | omega | (simp; done) | (simp; omega)) _))); obtain ⟨k2, f2⟩ := bcell b2; have y0 : W2.cell? ⟨w.heap.size, 0, none⟩ = some (.int .i64 0) := (by rw [k2 _ _ (by first | omega | (simp; done) | (simp; omega))]; first | (simp; done) | go_simp); have yf0 : W2.frozen? ⟨w.heap.size, 0, none⟩ = false := (by rw [f2 _ _ (by first | omega | (simp; done) | (simp; omega))]; first | (simp; done) | go_simp); have y1 : W2.cell? ⟨w.heap.size, 1, none⟩ = some (.int .i64 0) := (by rw [k2 _ _ (by first | omega | (simp; done) | (simp; omega))]; first | (simp; done) | go_simp); have yf1 : W2.frozen? ⟨w.heap.size, 1, none⟩ = false := (by rw [f2 _ _ (by first | omega | (simp; done) | (simp; omega))]; first | (simp; done) | go_simp); clear k2 f2) | (go_at_call 63; refine (outI_t t0 t1 0 0 0 _ HB.out 0 H0.out).mono ?_; rintro e3 W3 ⟨rfl, b3⟩; have q3 : W2.heap.size < W3.heap.size := (by have := b3.size; (try simp at this); omega); obtain ⟨k3, f3⟩ := bcell b3; have x0 : W3.cell? ⟨w.heap.size, 0, none⟩ = some (.int .i64 0) := (by rw [k3 _ _ (by first | omega | (simp; done) | (simp; omega))]; first | (simp; done) | go_simp); have xf0 : W3.frozen? ⟨w.heap.size, 0, none⟩ = false := (by rw [f3 _ _ (by first | omega | (simp; done) | (simp; omega))]; first | (simp; done) | go_simp); have x1 : W3.cell? ⟨w.heap.size, 1, none⟩ = some (.int .i64 0) := (by rw [k3 _ _ (by first | omega | (simp; done) | (simp; omega))]; first | (simp; done) | go_simp); have xf1 : W3.frozen? ⟨w.heap.size, 1, none⟩ = false := (by rw [f3 _ _ (by first | omega | (simp; done) | (simp; omega))]; first | (simp; done) | go_simp); have xt0 : W3.cell? ⟨W2.heap.size, 0, none⟩ = some (.int .i64 t0) := (by rw [k3 _ _ (by first | omega | (simp; done) | (simp; omega))]; first | (simp; done) | go_simp); have xtf0 : W3.frozen? ⟨W2.heap.size, 0, none⟩ = false := (by rw [f3 _ _ (by first | omega | (simp; done) | (simp; omega))]; first | (simp; done) | go_simp); have xt1 : W3.cell? ⟨W2.heap.size, 1, none⟩ = some (.int .i64 t1) := (by rw [k3 _ _ (by first | omega | (simp; done) | (simp; omega))]; first | (simp; done) | go_simp); have xtf1 : W3.frozen? ⟨W2.heap.size, 1, none⟩ = false := (by rw [f3 _ _ (by first | omega | (simp; done) | (simp; omega))]; first | (simp; done) | go_simp); have xt2 : W3.cell? ⟨W2.heap.size, 2, none⟩ = some (.int .i64 0) := (by rw [k3 _ _ (by first | omega | (simp; done) | (simp; omega))]; first | (simp; done) | go_simp); have xtf2 : W3.frozen? ⟨W2.heap.size, 2, none⟩ = false := (by rw [f3 _ _ (by first | omega | (simp; done) | (simp; omega))]; first | (simp; done) | go_simp); have xt3 : W3.cell? ⟨W2.heap.size, 3, none⟩ = some (.int .i64 0) := (by rw [k3 _ _ (by first | omega | (simp; done) | (simp; omega))]; first | (simp; done) | go_simp); have xtf3 : W3.frozen? ⟨W2.heap.size, 3, none⟩ = false := (by rw [f3 _ _ (by first | omega | (simp; done) | (simp; omega))]; first | (simp; done) | go_simp); have xt4 : W3.cell? ⟨W2.heap.size, 4, none⟩ = some (.int .i64 0) := (by rw [k3 _ _ (by first | omega | (simp; done) | (simp; omega))]; first | (simp; done) | go_simp); have xtf4 : W3.frozen? ⟨W2.heap.size, 4, none⟩ = false := (by rw [f3 _ _ (by first | omega | (simp; done) | (simp; omega))]; first | (simp; done) | go_simp); clear k3 f3; have d3 : Below w.heap.size w W3 := (by repeat (first | assumption | exact Below.refl _ _ | (refine Below.trans ?_ (b3.mono (by first | omega | (simp; done) | (simp; omega)))) | (refine Below.trans ?_ (d2.mono (by first | omega | (simp; done) | (simp; omega)))) | (refine Below.setCell ?_ (by first | omega | (simp; done) | (simp; omega)) _) | apply below_drewN | apply Below.drew | (refine Below.alloc ?_ (by first | omega | (simp; done) | (simp; omega)) _)))))
      obtain ⟨Z, hZ⟩ : ∃ Z, Z = (((W3.setCell ⟨w.heap.size, 0, none⟩ (.int .i64 0)).setCell ⟨w.heap.size, 1, none⟩ (.int .i64 0))) := ⟨_, rfl⟩
      have PZ := ps_fin0 d3 (by omega) x0 x1 Z hZ
      rw [← hZ]
      clear hZ
      obtain ⟨p0, p1, DZ⟩ := PZ
      exact bodyPost_ret (v := .tuple #[.agg #[.int .i64 0, .int .i64 0], .int .i64 3]) (by simp [results, Try.results39, go_sem, p0, p1]) rfl ⟨rfl, DZ⟩
    · have e0 : r0_PumpedShare xa0 = fnum (sumW xa0 la0).f3 (outW (sumW xa0 la0)) := by unfold r0_PumpedShare; rw [hln, if_pos ⟨h, g⟩]
      have e1 : r1_PumpedShare xa0 = fden (sumW xa0 la0).f3 (outW (sumW xa0 la0)) := by unfold r1_PumpedShare; rw [hln, if_pos ⟨h, g⟩]
      have e2 : r2_PumpedShare xa0 = 0 := by unfold r2_PumpedShare; rw [hln, if_pos h, if_neg g]
      rw [e0, e1, e2]
      obtain ⟨t, ht⟩ : ∃ t, t = sumW xa0 la0 := ⟨_, rfl⟩
      rw [← ht] at hbd2 g
      rw [← ht]
      obtain ⟨t0, t1, t2, t3, t4⟩ := t
      have HT := Lib.hid ht
      obtain ⟨_, _, ⟨b1, b2⟩, ⟨b3, b4⟩, b5, b6⟩ := hbd2
      simp only at b1 b2 b3 b4 b5 b6
      have HB := Lib.hid (show 0 ≤ t2 ∧ t2 ≤ 10000000000 ∧ 0 ≤ t3 ∧ t3 ≤ 10000000000 ∧ 0 ≤ t4 ∧ t4 ≤ 10000000000 by omega)
      have g' : ¬ t2 + t3 + t4 = 0 := g
      rw [show outW ⟨t0, t1, t2, t3, t4⟩ = t2 + t3 + t4 from rfl]
      rw [show (⟨t0, t1, t2, t3, t4⟩ : RWater).f3 = t3 from rfl]
      clear e0 e1 e2 h ht g
      obtain ⟨m, hm⟩ : ∃ m, m = t2 + t3 + t4 := ⟨_, rfl⟩
      have HM := Lib.hid hm
      have m1 : 1 ≤ m := by omega
      have m2 : m ≤ 10000000000 := by omega
      have m3 : ¬ m = 0 := by omega
      rw [← hm]
      clear hm
      go_enter Try.func39, Try.ntmps39
      go_wp2_with (first | (go_at_call 50; refine (runCode_t _ _ _ xa0 true True _ ha0 ((RA.out.below (by repeat (first | assumption | exact Below.refl _ _ | (refine Below.setCell ?_ (by first | omega | (simp; done) | (simp; omega)) _) | apply below_drewN | apply Below.drew | (refine Below.alloc ?_ (by first | omega | (simp; done) | (simp; omega)) _)))).mono (by first | omega | (simp; done) | (simp; omega))) rfl 0 HL.out).mono ?_; rintro e1 W1 ⟨rfl, b1⟩; have hz1 : w.heap.size < W1.heap.size := (by have := b1.size; simp at this; omega); have d1 : Below w.heap.size w W1 := (by repeat (first | assumption | exact Below.refl _ _ | (refine Below.trans ?_ (b1.mono (by first | omega | (simp; done) | (simp; omega)))) | (refine Below.setCell ?_ (by first | omega | (simp; done) | (simp; omega)) _) | apply below_drewN | apply Below.drew | (refine Below.alloc ?_ (by first | omega | (simp; done) | (simp; omega)) _))); obtain ⟨k1, f1⟩ := bcell b1; have z0 : W1.cell? ⟨w.heap.size, 0, none⟩ = some (.int .i64 0) := (by rw [k1 _ _ (by first | omega | (simp; done) | (simp; omega))]; first | (simp; done) | go_simp); have zf0 : W1.frozen? ⟨w.heap.size, 0, none⟩ = false := (by rw [f1 _ _ (by first | omega | (simp; done) | (simp; omega))]; first | (simp; done) | go_simp); have z1 : W1.cell? ⟨w.heap.size, 1, none⟩ = some (.int .i64 0) := (by rw [k1 _ _ (by first | omega | (simp; done) | (simp; omega))]; first | (simp; done) | go_simp); have zf1 : W1.frozen? ⟨w.heap.size, 1, none⟩ = false := (by rw [f1 _ _ (by first | omega | (simp; done) | (simp; omega))]; first | (simp; done) | go_simp); clear k1 f1) | (go_at_call 51; refine (sumI_t _ _ _ xa0 _ ha0 ((RA.out.below d1).mono d1.size) HV.out t0 t1 t2 t3 t4 HT.out).mono ?_; rintro e2 W2 ⟨rfl, b2⟩; have q2 : w.heap.size < W2.heap.size := (by have := b2.size; (try simp at this); omega); have d2 : Below w.heap.size w W2 := (by repeat (first | assumption | exact Below.refl _ _ | (refine Below.trans ?_ (b2.mono (by first | omega | (simp; done) | (simp; omega)))) | (refine Below.trans ?_ (d1.mono (by first | omega | (simp; done) | (simp; omega)))) | (refine Below.setCell ?_ (by first | omega | (simp; done) | (simp; omega)) _) | apply below_drewN | apply Below.drew | (refine Below.alloc ?_ (by first | omega | (simp; done) | (simp; omega)) _))); obtain ⟨k2, f2⟩ := bcell b2; have y0 : W2.cell? ⟨w.heap.size, 0, none⟩ = some (.int .i64 0) := (by rw [k2 _ _ (by first | omega | (simp; done) | (simp; omega))]; first | (simp; done) | go_simp); have yf0 : W2.frozen? ⟨w.heap.size, 0, none⟩ = false := (by rw [f2 _ _ (by first | omega | (simp; done) | (simp; omega))]; first | (simp; done) | go_simp); have y1 : W2.cell? ⟨w.heap.size, 1, none⟩ = some (.int .i64 0) := (by rw [k2 _ _ (by first | omega | (simp; done) | (simp; omega))]; first | (simp; done) | go_simp); have yf1 : W2.frozen? ⟨w.heap.size, 1, none⟩ = false := (by rw [f2 _ _ (by first | omega | (simp; done) | (simp; omega))]; first | (simp; done) | go_simp); clear k2 f2) | (go_at_call 63; refine (outI_t t0 t1 t2 t3 t4 _ HB.out m HM.out).mono ?_; rintro e3 W3 ⟨rfl, b3⟩; have q3 : W2.heap.size < W3.heap.size := (by have := b3.size; (try simp at this); omega); obtain ⟨k3, f3⟩ := bcell b3; have x0 : W3.cell? ⟨w.heap.size, 0, none⟩ = some (.int .i64 0) := (by rw [k3 _ _ (by first | omega | (simp; done) | (simp; omega))]; first | (simp; done) | go_simp); have xf0 : W3.frozen? ⟨w.heap.size, 0, none⟩ = false := (by rw [f3 _ _ (by first | omega | (simp; done) | (simp; omega))]; first | (simp; done) | go_simp); have x1 : W3.cell? ⟨w.heap.size, 1, none⟩ = some (.int .i64 0) := (by rw [k3 _ _ (by first | omega | (simp; done) | (simp; omega))]; first | (simp; done) | go_simp); have xf1 : W3.frozen? ⟨w.heap.size, 1, none⟩ = false := (by rw [f3 _ _ (by first | omega | (simp; done) | (simp; omega))]; first | (simp; done) | go_simp); have xt0 : W3.cell? ⟨W2.heap.size, 0, none⟩ = some (.int .i64 t0) := (by rw [k3 _ _ (by first | omega | (simp; done) | (simp; omega))]; first | (simp; done) | go_simp); have xtf0 : W3.frozen? ⟨W2.heap.size, 0, none⟩ = false := (by rw [f3 _ _ (by first | omega | (simp; done) | (simp; omega))]; first | (simp; done) | go_simp); have xt1 : W3.cell? ⟨W2.heap.size, 1, none⟩ = some (.int .i64 t1) := (by rw [k3 _ _ (by first | omega | (simp; done) | (simp; omega))]; first | (simp; done) | go_simp); have xtf1 : W3.frozen? ⟨W2.heap.size, 1, none⟩ = false := (by rw [f3 _ _ (by first | omega | (simp; done) | (simp; omega))]; first | (simp; done) | go_simp); have xt2 : W3.cell? ⟨W2.heap.size, 2, none⟩ = some (.int .i64 t2) := (by rw [k3 _ _ (by first | omega | (simp; done) | (simp; omega))]; first | (simp; done) | go_simp); have xtf2 : W3.frozen? ⟨W2.heap.size, 2, none⟩ = false := (by rw [f3 _ _ (by first | omega | (simp; done) | (simp; omega))]; first | (simp; done) | go_simp); have xt3 : W3.cell? ⟨W2.heap.size, 3, none⟩ = some (.int .i64 t3) := (by rw [k3 _ _ (by first | omega | (simp; done) | (simp; omega))]; first | (simp; done) | go_simp); have xtf3 : W3.frozen? ⟨W2.heap.size, 3, none⟩ = false := (by rw [f3 _ _ (by first | omega | (simp; done) | (simp; omega))]; first | (simp; done) | go_simp); have xt4 : W3.cell? ⟨W2.heap.size, 4, none⟩ = some (.int .i64 t4) := (by rw [k3 _ _ (by first | omega | (simp; done) | (simp; omega))]; first | (simp; done) | go_simp); have xtf4 : W3.frozen? ⟨W2.heap.size, 4, none⟩ = false := (by rw [f3 _ _ (by first | omega | (simp; done) | (simp; omega))]; first | (simp; done) | go_simp); clear k3 f3; have d3 : Below w.heap.size w W3 := (by repeat (first | assumption | exact Below.refl _ _ | (refine Below.trans ?_ (b3.mono (by first | omega | (simp; done) | (simp; omega)))) | (refine Below.trans ?_ (d2.mono (by first | omega | (simp; done) | (simp; omega)))) | (refine Below.setCell ?_ (by first | omega | (simp; done) | (simp; omega)) _) | apply below_drewN | apply Below.drew | (refine Below.alloc ?_ (by first | omega | (simp; done) | (simp; omega)) _)))))
      have n1 : ¬ w.heap.size = W2.heap.size := by omega
      have n2 : ¬ W2.heap.size = w.heap.size := by omega
      go_region_held3 (fun w' => w'.cell? ⟨W2.heap.size, 0, none⟩ = some (.int .i64 t0) ∧ w'.cell? ⟨W2.heap.size, 1, none⟩ = some (.int .i64 t1) ∧ w'.cell? ⟨W2.heap.size, 2, none⟩ = some (.int .i64 t2) ∧ w'.cell? ⟨W2.heap.size, 3, none⟩ = some (.int .i64 t3) ∧ w'.cell? ⟨W2.heap.size, 4, none⟩ = some (.int .i64 t4)) (go_keep) (first | (go_at_call 63; refine (outI_t t0 t1 t2 t3 t4 _ HB.out m HM.out).mono ?_; rintro e5 W5 ⟨rfl, b5⟩; have q5 : W2.heap.size < W5.heap.size := (by have := b5.size; (try simp at this); omega); obtain ⟨k5, f5⟩ := bcell b5; have v0 : W5.cell? ⟨w.heap.size, 0, none⟩ = some (.int .i64 0) := (by rw [k5 _ _ (by first | omega | (simp; done) | (simp; omega))]; first | (simp; done) | go_simp); have vf0 : W5.frozen? ⟨w.heap.size, 0, none⟩ = false := (by rw [f5 _ _ (by first | omega | (simp; done) | (simp; omega))]; first | (simp; done) | go_simp); have v1 : W5.cell? ⟨w.heap.size, 1, none⟩ = some (.int .i64 0) := (by rw [k5 _ _ (by first | omega | (simp; done) | (simp; omega))]; first | (simp; done) | go_simp); have vf1 : W5.frozen? ⟨w.heap.size, 1, none⟩ = false := (by rw [f5 _ _ (by first | omega | (simp; done) | (simp; omega))]; first | (simp; done) | go_simp); have vt0 : W5.cell? ⟨W2.heap.size, 0, none⟩ = some (.int .i64 t0) := (by rw [k5 _ _ (by first | omega | (simp; done) | (simp; omega))]; first | (simp; done) | go_simp); have vtf0 : W5.frozen? ⟨W2.heap.size, 0, none⟩ = false := (by rw [f5 _ _ (by first | omega | (simp; done) | (simp; omega))]; first | (simp; done) | go_simp); have vt1 : W5.cell? ⟨W2.heap.size, 1, none⟩ = some (.int .i64 t1) := (by rw [k5 _ _ (by first | omega | (simp; done) | (simp; omega))]; first | (simp; done) | go_simp); have vtf1 : W5.frozen? ⟨W2.heap.size, 1, none⟩ = false := (by rw [f5 _ _ (by first | omega | (simp; done) | (simp; omega))]; first | (simp; done) | go_simp); have vt2 : W5.cell? ⟨W2.heap.size, 2, none⟩ = some (.int .i64 t2) := (by rw [k5 _ _ (by first | omega | (simp; done) | (simp; omega))]; first | (simp; done) | go_simp); have vtf2 : W5.frozen? ⟨W2.heap.size, 2, none⟩ = false := (by rw [f5 _ _ (by first | omega | (simp; done) | (simp; omega))]; first | (simp; done) | go_simp); have vt3 : W5.cell? ⟨W2.heap.size, 3, none⟩ = some (.int .i64 t3) := (by rw [k5 _ _ (by first | omega | (simp; done) | (simp; omega))]; first | (simp; done) | go_simp); have vtf3 : W5.frozen? ⟨W2.heap.size, 3, none⟩ = false := (by rw [f5 _ _ (by first | omega | (simp; done) | (simp; omega))]; first | (simp; done) | go_simp); have vt4 : W5.cell? ⟨W2.heap.size, 4, none⟩ = some (.int .i64 t4) := (by rw [k5 _ _ (by first | omega | (simp; done) | (simp; omega))]; first | (simp; done) | go_simp); have vtf4 : W5.frozen? ⟨W2.heap.size, 4, none⟩ = false := (by rw [f5 _ _ (by first | omega | (simp; done) | (simp; omega))]; first | (simp; done) | go_simp); clear k5 f5; have d5 : Below w.heap.size w W5 := (by repeat (first | assumption | exact Below.refl _ _ | (refine Below.trans ?_ (b5.mono (by first | omega | (simp; done) | (simp; omega)))) | (refine Below.setCell ?_ (by first | omega | (simp; done) | (simp; omega)) _) | apply below_drewN | apply Below.drew | (refine Below.alloc ?_ (by first | omega | (simp; done) | (simp; omega)) _)))) | (go_at_call 64; refine (impl_lowest t3 m _ (by omega) (by omega) m1 m2).mono ?_; rintro e6 W6 ⟨rfl, b6⟩; have q6 : W2.heap.size < W6.heap.size := (by have := b6.size; (try simp at this); omega); obtain ⟨k6, f6⟩ := bcell b6; have u0 : W6.cell? ⟨w.heap.size, 0, none⟩ = some (.int .i64 0) := (by rw [k6 _ _ (by first | omega | (simp; done) | (simp; omega))]; first | (simp; done) | go_simp); have uf0 : W6.frozen? ⟨w.heap.size, 0, none⟩ = false := (by rw [f6 _ _ (by first | omega | (simp; done) | (simp; omega))]; first | (simp; done) | go_simp); have u1 : W6.cell? ⟨w.heap.size, 1, none⟩ = some (.int .i64 0) := (by rw [k6 _ _ (by first | omega | (simp; done) | (simp; omega))]; first | (simp; done) | go_simp); have uf1 : W6.frozen? ⟨w.heap.size, 1, none⟩ = false := (by rw [f6 _ _ (by first | omega | (simp; done) | (simp; omega))]; first | (simp; done) | go_simp); have ut0 : W6.cell? ⟨W2.heap.size, 0, none⟩ = some (.int .i64 t0) := (by rw [k6 _ _ (by first | omega | (simp; done) | (simp; omega))]; first | (simp; done) | go_simp); have utf0 : W6.frozen? ⟨W2.heap.size, 0, none⟩ = false := (by rw [f6 _ _ (by first | omega | (simp; done) | (simp; omega))]; first | (simp; done) | go_simp); have ut1 : W6.cell? ⟨W2.heap.size, 1, none⟩ = some (.int .i64 t1) := (by rw [k6 _ _ (by first | omega | (simp; done) | (simp; omega))]; first | (simp; done) | go_simp); have utf1 : W6.frozen? ⟨W2.heap.size, 1, none⟩ = false := (by rw [f6 _ _ (by first | omega | (simp; done) | (simp; omega))]; first | (simp; done) | go_simp); have ut2 : W6.cell? ⟨W2.heap.size, 2, none⟩ = some (.int .i64 t2) := (by rw [k6 _ _ (by first | omega | (simp; done) | (simp; omega))]; first | (simp; done) | go_simp); have utf2 : W6.frozen? ⟨W2.heap.size, 2, none⟩ = false := (by rw [f6 _ _ (by first | omega | (simp; done) | (simp; omega))]; first | (simp; done) | go_simp); have ut3 : W6.cell? ⟨W2.heap.size, 3, none⟩ = some (.int .i64 t3) := (by rw [k6 _ _ (by first | omega | (simp; done) | (simp; omega))]; first | (simp; done) | go_simp); have utf3 : W6.frozen? ⟨W2.heap.size, 3, none⟩ = false := (by rw [f6 _ _ (by first | omega | (simp; done) | (simp; omega))]; first | (simp; done) | go_simp); have ut4 : W6.cell? ⟨W2.heap.size, 4, none⟩ = some (.int .i64 t4) := (by rw [k6 _ _ (by first | omega | (simp; done) | (simp; omega))]; first | (simp; done) | go_simp); have utf4 : W6.frozen? ⟨W2.heap.size, 4, none⟩ = false := (by rw [f6 _ _ (by first | omega | (simp; done) | (simp; omega))]; first | (simp; done) | go_simp); clear k6 f6; have d6 : Below w.heap.size w W6 := (by repeat (first | assumption | exact Below.refl _ _ | (refine Below.trans ?_ (b6.mono (by first | omega | (simp; done) | (simp; omega)))) | (refine Below.setCell ?_ (by first | omega | (simp; done) | (simp; omega)) _) | apply below_drewN | apply Below.drew | (refine Below.alloc ?_ (by first | omega | (simp; done) | (simp; omega)) _)))))
      all_goals
        go_wp2
        obtain ⟨Z, hZ⟩ : ∃ Z, Z = (W6.setCell ⟨w.heap.size, 0, none⟩ (.int .i64 (fnum t3 m))).setCell ⟨w.heap.size, 1, none⟩ (.int .i64 (fden t3 m)) := ⟨_, rfl⟩
        have PZ := ps_fin0 d6 (by omega) u0 u1 Z hZ
        rw [← hZ]
        clear hZ
        obtain ⟨p0, p1, DZ⟩ := PZ
        exact bodyPost_ret (v := .tuple #[.agg #[.int .i64 (fnum t3 m), .int .i64 (fden t3 m)], .int .i64 0]) (by simp [results, Try.results39, go_sem, p0, p1]) rfl ⟨rfl, DZ⟩
  · have e0 : r0_PumpedShare xa0 = 0 := by unfold r0_PumpedShare; rw [hln, if_neg (fun g => h g.1)]
    have e1 : r1_PumpedShare xa0 = 0 := by unfold r1_PumpedShare; rw [hln, if_neg (fun g => h g.1)]
    have e2 : r2_PumpedShare xa0 = wcode la0 xa0 True := by unfold r2_PumpedShare; rw [hln, if_neg h]
    rw [e0, e1, e2]
    have e6 := wcode_ne (P := True) (fun g => h g.1)
    obtain ⟨C, hC⟩ : ∃ C, wcode la0 xa0 True = C := ⟨_, rfl⟩
    have HL := Lib.hid hC
    rw [hC] at e6 ⊢
    clear e0 e1 e2 h hC
    go_enter Try.func39, Try.ntmps39
    go_wp2_with (first | (go_at_call 50; refine (runCode_t _ _ _ xa0 true True _ ha0 ((RA.out.below (by repeat (first | assumption | exact Below.refl _ _ | (refine Below.setCell ?_ (by first | omega | (simp; done) | (simp; omega)) _) | apply below_drewN | apply Below.drew | (refine Below.alloc ?_ (by first | omega | (simp; done) | (simp; omega)) _)))).mono (by first | omega | (simp; done) | (simp; omega))) rfl C HL.out).mono ?_; rintro e1 W1 ⟨rfl, b1⟩; have hz1 : w.heap.size < W1.heap.size := (by have := b1.size; simp at this; omega); have d1 : Below w.heap.size w W1 := (by repeat (first | assumption | exact Below.refl _ _ | (refine Below.trans ?_ (b1.mono (by first | omega | (simp; done) | (simp; omega)))) | (refine Below.setCell ?_ (by first | omega | (simp; done) | (simp; omega)) _) | apply below_drewN | apply Below.drew | (refine Below.alloc ?_ (by first | omega | (simp; done) | (simp; omega)) _))); obtain ⟨k1, f1⟩ := bcell b1; have z0 : W1.cell? ⟨w.heap.size, 0, none⟩ = some (.int .i64 0) := (by rw [k1 _ _ (by first | omega | (simp; done) | (simp; omega))]; first | (simp; done) | go_simp); have zf0 : W1.frozen? ⟨w.heap.size, 0, none⟩ = false := (by rw [f1 _ _ (by first | omega | (simp; done) | (simp; omega))]; first | (simp; done) | go_simp); have z1 : W1.cell? ⟨w.heap.size, 1, none⟩ = some (.int .i64 0) := (by rw [k1 _ _ (by first | omega | (simp; done) | (simp; omega))]; first | (simp; done) | go_simp); have zf1 : W1.frozen? ⟨w.heap.size, 1, none⟩ = false := (by rw [f1 _ _ (by first | omega | (simp; done) | (simp; omega))]; first | (simp; done) | go_simp); clear k1 f1))
    obtain ⟨Z, hZ⟩ : ∃ Z, Z = (W1.setCell ⟨w.heap.size, 0, none⟩ (.int .i64 0)).setCell ⟨w.heap.size, 1, none⟩ (.int .i64 0) := ⟨_, rfl⟩
    have PZ := ps_fin0 d1 (by omega) z0 z1 Z hZ
    rw [← hZ]
    clear hZ
    obtain ⟨p0, p1, DZ⟩ := PZ
    exact bodyPost_ret (v := .tuple #[.agg #[.int .i64 0, .int .i64 0], .int .i64 C]) (by simp [results, Try.results39, go_sem, p0, p1]) rfl ⟨rfl, DZ⟩

end Go.Proofs.Ytfpfmfhhcgafcaa
