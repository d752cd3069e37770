import Derived.Test.YtfpfmfhhcgafcaaWatT
import Derived.Test.YtfpfmfhhcgafcaaOut
namespace Go.Proofs.Ytfpfmfhhcgafcaa
open Go.RowKit

def r0_SumOfDays (xa0 : List RWater) : Int := if waList xa0.length xa0 then (sumW xa0 xa0.length).f0 else 0
def r1_SumOfDays (xa0 : List RWater) : Int := if waList xa0.length xa0 then (sumW xa0 xa0.length).f1 else 0
def r2_SumOfDays (xa0 : List RWater) : Int := if waList xa0.length xa0 then (sumW xa0 xa0.length).f2 else 0
def r3_SumOfDays (xa0 : List RWater) : Int := if waList xa0.length xa0 then (sumW xa0 xa0.length).f3 else 0
def r4_SumOfDays (xa0 : List RWater) : Int := if waList xa0.length xa0 then (sumW xa0 xa0.length).f4 else 0
def r5_SumOfDays (xa0 : List RWater) : Int := wcode xa0.length xa0 True

theorem five_back {w : World} {r : Nat} {v0 v1 v2 v3 v4 o0 o1 o2 o3 o4 : Value} (h0 : w.cell? ⟨r, 0, none⟩ = some o0) (h1 : w.cell? ⟨r, 1, none⟩ = some o1) (h2 : w.cell? ⟨r, 2, none⟩ = some o2) (h3 : w.cell? ⟨r, 3, none⟩ = some o3) (h4 : w.cell? ⟨r, 4, none⟩ = some o4) (W : World) (hW : W = ((((w.setCell ⟨r, 0, none⟩ v0).setCell ⟨r, 1, none⟩ v1).setCell ⟨r, 2, none⟩ v2).setCell ⟨r, 3, none⟩ v3).setCell ⟨r, 4, none⟩ v4) :
    W.cell? ⟨r, 0, none⟩ = some v0 ∧ W.cell? ⟨r, 1, none⟩ = some v1 ∧ W.cell? ⟨r, 2, none⟩ = some v2 ∧ W.cell? ⟨r, 3, none⟩ = some v3 ∧ W.cell? ⟨r, 4, none⟩ = some v4 := by
  have c : ∀ {W : World} {i : Nat} (j : Nat) {o : Value} (v : Value), W.cell? ⟨r, i, none⟩ = some o → (W.setCell ⟨r, j, none⟩ v).cell? ⟨r, i, none⟩ = some (if i = j then v else o) := fun {W i} j {o} v h => cell5 j v h
  subst hW
  refine ⟨?_, ?_, ?_, ?_, ?_⟩
  · simpa using c 4 v4 (c 3 v3 (c 2 v2 (c 1 v1 (c 0 v0 h0))))
  · simpa using c 4 v4 (c 3 v3 (c 2 v2 (c 1 v1 (c 0 v0 h1))))
  · simpa using c 4 v4 (c 3 v3 (c 2 v2 (c 1 v1 (c 0 v0 h2))))
  · simpa using c 4 v4 (c 3 v3 (c 2 v2 (c 1 v1 (c 0 v0 h3))))
  · simpa using c 4 v4 (c 3 v3 (c 2 v2 (c 1 v1 (c 0 v0 h4))))

set_option maxHeartbeats 1600000 in
theorem specC_SumOfDays (a0 : Option Addr) (la0 ca0 : Nat) (xa0 : List RWater) (w : World) (ha0 : la0 ≤ 1048576) (ra0 : Rd_Water w w.heap.size a0 la0 xa0) (fa0 : Wf_Water xa0) :
    Calls Try.prog 23 #[.slice a0 la0 ca0] w fun e w' => e = .returned (.tuple #[.agg #[.int .i64 (r0_SumOfDays xa0), .int .i64 (r1_SumOfDays xa0), .int .i64 (r2_SumOfDays xa0), .int .i64 (r3_SumOfDays xa0), .int .i64 (r4_SumOfDays xa0)], .int .i64 (r5_SumOfDays xa0)]) ∧ Below w.heap.size w w' := by
  have hln := ra0.len
  have RA := Lib.hid ra0
  clear ra0
  by_cases h : waList la0 xa0
  · have e0 : r0_SumOfDays xa0 = (sumW xa0 la0).f0 := by unfold r0_SumOfDays; rw [hln, if_pos h]
    have e1 : r1_SumOfDays xa0 = (sumW xa0 la0).f1 := by unfold r1_SumOfDays; rw [hln, if_pos h]
    have e2 : r2_SumOfDays xa0 = (sumW xa0 la0).f2 := by unfold r2_SumOfDays; rw [hln, if_pos h]
    have e3 : r3_SumOfDays xa0 = (sumW xa0 la0).f3 := by unfold r3_SumOfDays; rw [hln, if_pos h]
    have e4 : r4_SumOfDays xa0 = (sumW xa0 la0).f4 := by unfold r4_SumOfDays; rw [hln, if_pos h]
    have e5 : r5_SumOfDays xa0 = 0 := by unfold r5_SumOfDays; rw [hln]; exact wcode_ok h trivial
    rw [e0, e1, e2, e3, e4, e5]
    have HL := Lib.hid (wcode_ok (P := True) h trivial)
    have HV := Lib.hid h
    obtain ⟨s, hs⟩ : ∃ s, s = sumW xa0 la0 := ⟨_, rfl⟩
    rw [← hs]
    obtain ⟨s0, s1, s2, s3, s4⟩ := s
    have HS := Lib.hid hs
    clear e0 e1 e2 e3 e4 e5 h hs
    go_enter Try.func23, Try.ntmps23
    go_wp2_with (first | (go_at_call 48; refine (l13List_t _ _ _ xa0 _ ha0 ((RA.out.below (by repeat (first | assumption | exact Below.refl _ _ | (refine Below.setCell ?_ (by first | omega | (simp; done) | (simp; omega)) _) | apply below_drewN | apply Below.drew | (refine Below.alloc ?_ (by first | omega | (simp; done) | (simp; omega)) _)))).mono (by first | omega | (simp; done) | (simp; omega))) 0 HL.out).mono ?_; rintro e1 w1 ⟨rfl, rfl⟩) | (go_at_call 49; refine (sumS_t _ _ _ xa0 _ ha0 ((RA.out.below (by repeat (first | assumption | exact Below.refl _ _ | (refine Below.setCell ?_ (by first | omega | (simp; done) | (simp; omega)) _) | apply below_drewN | apply Below.drew | (refine Below.alloc ?_ (by first | omega | (simp; done) | (simp; omega)) _)))).mono (by first | omega | (simp; done) | (simp; omega))) HV.out s0 s1 s2 s3 s4 HS.out).mono ?_; rintro e2 W2 ⟨rfl, b2⟩; have q2 : w.heap.size < W2.heap.size := (by have := b2.size; (try simp at this); omega); have d2 : Below w.heap.size w W2 := (by repeat (first | assumption | exact Below.refl _ _ | (refine Below.trans ?_ (b2.mono (by first | omega | (simp; done) | (simp; omega)))) | (refine Below.setCell ?_ (by first | omega | (simp; done) | (simp; omega)) _) | apply below_drewN | apply Below.drew | (refine Below.alloc ?_ (by first | omega | (simp; done) | (simp; omega)) _))); obtain ⟨k2, f2⟩ := bcell b2; have y0 : W2.cell? ⟨w.heap.size, 0, none⟩ = some (.int .i64 0) := (by rw [k2 _ _ (by first | omega | (simp; done) | (simp; omega))]; first | (simp; done) | go_simp); have yf0 : W2.frozen? ⟨w.heap.size, 0, none⟩ = false := (by rw [f2 _ _ (by first | omega | (simp; done) | (simp; omega))]; first | (simp; done) | go_simp); have y1 : W2.cell? ⟨w.heap.size, 1, none⟩ = some (.int .i64 0) := (by rw [k2 _ _ (by first | omega | (simp; done) | (simp; omega))]; first | (simp; done) | go_simp); have yf1 : W2.frozen? ⟨w.heap.size, 1, none⟩ = false := (by rw [f2 _ _ (by first | omega | (simp; done) | (simp; omega))]; first | (simp; done) | go_simp); have y2 : W2.cell? ⟨w.heap.size, 2, none⟩ = some (.int .i64 0) := (by rw [k2 _ _ (by first | omega | (simp; done) | (simp; omega))]; first | (simp; done) | go_simp); have yf2 : W2.frozen? ⟨w.heap.size, 2, none⟩ = false := (by rw [f2 _ _ (by first | omega | (simp; done) | (simp; omega))]; first | (simp; done) | go_simp); have y3 : W2.cell? ⟨w.heap.size, 3, none⟩ = some (.int .i64 0) := (by rw [k2 _ _ (by first | omega | (simp; done) | (simp; omega))]; first | (simp; done) | go_simp); have yf3 : W2.frozen? ⟨w.heap.size, 3, none⟩ = false := (by rw [f2 _ _ (by first | omega | (simp; done) | (simp; omega))]; first | (simp; done) | go_simp); have y4 : W2.cell? ⟨w.heap.size, 4, none⟩ = some (.int .i64 0) := (by rw [k2 _ _ (by first | omega | (simp; done) | (simp; omega))]; first | (simp; done) | go_simp); have yf4 : W2.frozen? ⟨w.heap.size, 4, none⟩ = false := (by rw [f2 _ _ (by first | omega | (simp; done) | (simp; omega))]; first | (simp; done) | go_simp); clear k2 f2))
    obtain ⟨W, hW⟩ : ∃ W, W = ((((W2.setCell ⟨w.heap.size, 0, none⟩ (.int .i64 s0)).setCell ⟨w.heap.size, 1, none⟩ (.int .i64 s1)).setCell ⟨w.heap.size, 2, none⟩ (.int .i64 s2)).setCell ⟨w.heap.size, 3, none⟩ (.int .i64 s3)).setCell ⟨w.heap.size, 4, none⟩ (.int .i64 s4) := ⟨_, rfl⟩
    have PZ := five_back y0 y1 y2 y3 y4 W hW
    have DZ : Below w.heap.size w W := by rw [hW]; exact ((((d2.setCell (Nat.le_refl _) _).setCell (Nat.le_refl _) _).setCell (Nat.le_refl _) _).setCell (Nat.le_refl _) _).setCell (Nat.le_refl _) _
    rw [← hW]
    clear hW
    obtain ⟨p0, p1, p2, p3, p4⟩ := PZ
    exact bodyPost_ret (v := .tuple #[.agg #[.int .i64 s0, .int .i64 s1, .int .i64 s2, .int .i64 s3, .int .i64 s4], .int .i64 0]) (by simp [results, Try.results23, go_sem, p0, p1, p2, p3, p4]) rfl ⟨rfl, DZ⟩
  · have e0 : r0_SumOfDays xa0 = 0 := by unfold r0_SumOfDays; rw [hln, if_neg h]
    have e1 : r1_SumOfDays xa0 = 0 := by unfold r1_SumOfDays; rw [hln, if_neg h]
    have e2 : r2_SumOfDays xa0 = 0 := by unfold r2_SumOfDays; rw [hln, if_neg h]
    have e3 : r3_SumOfDays xa0 = 0 := by unfold r3_SumOfDays; rw [hln, if_neg h]
    have e4 : r4_SumOfDays xa0 = 0 := by unfold r4_SumOfDays; rw [hln, if_neg h]
    have e5 : r5_SumOfDays xa0 = wcode la0 xa0 True := by unfold r5_SumOfDays; rw [hln]
    rw [e0, e1, e2, e3, e4, e5]
    have e6 := wcode_ne (P := True) (fun g => h g.1)
    obtain ⟨C, hC⟩ : ∃ C, wcode la0 xa0 True = C := ⟨_, rfl⟩
    have HL := Lib.hid hC
    rw [hC] at e6 ⊢
    clear e0 e1 e2 e3 e4 e5 h hC
    go_enter Try.func23, Try.ntmps23
    go_wp2_with (first | (go_at_call 48; refine (l13List_t _ _ _ xa0 _ ha0 ((RA.out.below (by repeat (first | assumption | exact Below.refl _ _ | (refine Below.setCell ?_ (by first | omega | (simp; done) | (simp; omega)) _) | apply below_drewN | apply Below.drew | (refine Below.alloc ?_ (by first | omega | (simp; done) | (simp; omega)) _)))).mono (by first | omega | (simp; done) | (simp; omega))) C HL.out).mono ?_; rintro e1 w1 ⟨rfl, rfl⟩))
    exact bodyPost_ret (v := .tuple #[.agg #[.int .i64 0, .int .i64 0, .int .i64 0, .int .i64 0, .int .i64 0], .int .i64 C]) (by simp [results, Try.results23, go_sem]) rfl ⟨rfl, (by repeat (first | assumption | exact Below.refl _ _ | (refine Below.setCell ?_ (by first | omega | (simp; done) | (simp; omega)) _) | apply below_drewN | apply Below.drew | (refine Below.alloc ?_ (by first | omega | (simp; done) | (simp; omega)) _)))⟩
set_option maxHeartbeats 1600000 in
theorem implC_SumOfDays (a0 : Option Addr) (la0 ca0 : Nat) (xa0 : List RWater) (w : World) (ha0 : la0 ≤ 1048576) (ra0 : Rd_Water w w.heap.size a0 la0 xa0) (fa0 : Wf_Water xa0) :
    Calls Try.prog 24 #[.slice a0 la0 ca0] w fun e w' => e = .returned (.tuple #[.agg #[.int .i64 (r0_SumOfDays xa0), .int .i64 (r1_SumOfDays xa0), .int .i64 (r2_SumOfDays xa0), .int .i64 (r3_SumOfDays xa0), .int .i64 (r4_SumOfDays xa0)], .int .i64 (r5_SumOfDays xa0)]) ∧ Below w.heap.size w w' := by
  have hln := ra0.len
  have RA := Lib.hid ra0
  clear ra0
  by_cases h : waList la0 xa0
  · have e0 : r0_SumOfDays xa0 = (sumW xa0 la0).f0 := by unfold r0_SumOfDays; rw [hln, if_pos h]
    have e1 : r1_SumOfDays xa0 = (sumW xa0 la0).f1 := by unfold r1_SumOfDays; rw [hln, if_pos h]
    have e2 : r2_SumOfDays xa0 = (sumW xa0 la0).f2 := by unfold r2_SumOfDays; rw [hln, if_pos h]
    have e3 : r3_SumOfDays xa0 = (sumW xa0 la0).f3 := by unfold r3_SumOfDays; rw [hln, if_pos h]
    have e4 : r4_SumOfDays xa0 = (sumW xa0 la0).f4 := by unfold r4_SumOfDays; rw [hln, if_pos h]
    have e5 : r5_SumOfDays xa0 = 0 := by unfold r5_SumOfDays; rw [hln]; exact wcode_ok h trivial
    rw [e0, e1, e2, e3, e4, e5]
    have HL := Lib.hid (wcode_ok (P := True) h trivial)
    have HV := Lib.hid h
    obtain ⟨s, hs⟩ : ∃ s, s = sumW xa0 la0 := ⟨_, rfl⟩
    rw [← hs]
    obtain ⟨s0, s1, s2, s3, s4⟩ := s
    have HS := Lib.hid hs
    clear e0 e1 e2 e3 e4 e5 h hs
    go_enter Try.func24, Try.ntmps24
    go_wp2_with (first | (go_at_call 50; refine (runCode_t _ _ _ xa0 true True _ ha0 ((RA.out.below (by repeat (first | assumption | exact Below.refl _ _ | (refine Below.setCell ?_ (by first | omega | (simp; done) | (simp; omega)) _) | apply below_drewN | apply Below.drew | (refine Below.alloc ?_ (by first | omega | (simp; done) | (simp; omega)) _)))).mono (by first | omega | (simp; done) | (simp; omega))) rfl 0 HL.out).mono ?_; rintro e1 W1 ⟨rfl, b1⟩; have hz1 : w.heap.size < W1.heap.size := (by have := b1.size; simp at this; omega); have d1 : Below w.heap.size w W1 := (by repeat (first | assumption | exact Below.refl _ _ | (refine Below.trans ?_ (b1.mono (by first | omega | (simp; done) | (simp; omega)))) | (refine Below.setCell ?_ (by first | omega | (simp; done) | (simp; omega)) _) | apply below_drewN | apply Below.drew | (refine Below.alloc ?_ (by first | omega | (simp; done) | (simp; omega)) _))); obtain ⟨k1, f1⟩ := bcell b1; have z0 : W1.cell? ⟨w.heap.size, 0, none⟩ = some (.int .i64 0) := (by rw [k1 _ _ (by first | omega | (simp; done) | (simp; omega))]; first | (simp; done) | go_simp); have zf0 : W1.frozen? ⟨w.heap.size, 0, none⟩ = false := (by rw [f1 _ _ (by first | omega | (simp; done) | (simp; omega))]; first | (simp; done) | go_simp); have z1 : W1.cell? ⟨w.heap.size, 1, none⟩ = some (.int .i64 0) := (by rw [k1 _ _ (by first | omega | (simp; done) | (simp; omega))]; first | (simp; done) | go_simp); have zf1 : W1.frozen? ⟨w.heap.size, 1, none⟩ = false := (by rw [f1 _ _ (by first | omega | (simp; done) | (simp; omega))]; first | (simp; done) | go_simp); have z2 : W1.cell? ⟨w.heap.size, 2, none⟩ = some (.int .i64 0) := (by rw [k1 _ _ (by first | omega | (simp; done) | (simp; omega))]; first | (simp; done) | go_simp); have zf2 : W1.frozen? ⟨w.heap.size, 2, none⟩ = false := (by rw [f1 _ _ (by first | omega | (simp; done) | (simp; omega))]; first | (simp; done) | go_simp); have z3 : W1.cell? ⟨w.heap.size, 3, none⟩ = some (.int .i64 0) := (by rw [k1 _ _ (by first | omega | (simp; done) | (simp; omega))]; first | (simp; done) | go_simp); have zf3 : W1.frozen? ⟨w.heap.size, 3, none⟩ = false := (by rw [f1 _ _ (by first | omega | (simp; done) | (simp; omega))]; first | (simp; done) | go_simp); have z4 : W1.cell? ⟨w.heap.size, 4, none⟩ = some (.int .i64 0) := (by rw [k1 _ _ (by first | omega | (simp; done) | (simp; omega))]; first | (simp; done) | go_simp); have zf4 : W1.frozen? ⟨w.heap.size, 4, none⟩ = false := (by rw [f1 _ _ (by first | omega | (simp; done) | (simp; omega))]; first | (simp; done) | go_simp); clear k1 f1) | (go_at_call 51; refine (sumI_t _ _ _ xa0 _ ha0 ((RA.out.below d1).mono (by first | omega | (simp; done) | (simp; omega))) HV.out s0 s1 s2 s3 s4 HS.out).mono ?_; rintro e2 W2 ⟨rfl, b2⟩; have q2 : w.heap.size < W2.heap.size := (by have := b2.size; (try simp at this); omega); have d2 : Below w.heap.size w W2 := (by repeat (first | assumption | exact Below.refl _ _ | (refine Below.trans ?_ (b2.mono (by first | omega | (simp; done) | (simp; omega)))) | (refine Below.trans ?_ (d1.mono (by first | omega | (simp; done) | (simp; omega)))) | (refine Below.setCell ?_ (by first | omega | (simp; done) | (simp; omega)) _) | apply below_drewN | apply Below.drew | (refine Below.alloc ?_ (by first | omega | (simp; done) | (simp; omega)) _))); obtain ⟨k2, f2⟩ := bcell b2; have y0 : W2.cell? ⟨w.heap.size, 0, none⟩ = some (.int .i64 0) := (by rw [k2 _ _ (by first | omega | (simp; done) | (simp; omega))]; first | (simp; done) | go_simp); have yf0 : W2.frozen? ⟨w.heap.size, 0, none⟩ = false := (by rw [f2 _ _ (by first | omega | (simp; done) | (simp; omega))]; first | (simp; done) | go_simp); have y1 : W2.cell? ⟨w.heap.size, 1, none⟩ = some (.int .i64 0) := (by rw [k2 _ _ (by first | omega | (simp; done) | (simp; omega))]; first | (simp; done) | go_simp); have yf1 : W2.frozen? ⟨w.heap.size, 1, none⟩ = false := (by rw [f2 _ _ (by first | omega | (simp; done) | (simp; omega))]; first | (simp; done) | go_simp); have y2 : W2.cell? ⟨w.heap.size, 2, none⟩ = some (.int .i64 0) := (by rw [k2 _ _ (by first | omega | (simp; done) | (simp; omega))]; first | (simp; done) | go_simp); have yf2 : W2.frozen? ⟨w.heap.size, 2, none⟩ = false := (by rw [f2 _ _ (by first | omega | (simp; done) | (simp; omega))]; first | (simp; done) | go_simp); have y3 : W2.cell? ⟨w.heap.size, 3, none⟩ = some (.int .i64 0) := (by rw [k2 _ _ (by first | omega | (simp; done) | (simp; omega))]; first | (simp; done) | go_simp); have yf3 : W2.frozen? ⟨w.heap.size, 3, none⟩ = false := (by rw [f2 _ _ (by first | omega | (simp; done) | (simp; omega))]; first | (simp; done) | go_simp); have y4 : W2.cell? ⟨w.heap.size, 4, none⟩ = some (.int .i64 0) := (by rw [k2 _ _ (by first | omega | (simp; done) | (simp; omega))]; first | (simp; done) | go_simp); have yf4 : W2.frozen? ⟨w.heap.size, 4, none⟩ = false := (by rw [f2 _ _ (by first | omega | (simp; done) | (simp; omega))]; first | (simp; done) | go_simp); clear k2 f2))
    obtain ⟨W, hW⟩ : ∃ W, W = ((((W2.setCell ⟨w.heap.size, 0, none⟩ (.int .i64 s0)).setCell ⟨w.heap.size, 1, none⟩ (.int .i64 s1)).setCell ⟨w.heap.size, 2, none⟩ (.int .i64 s2)).setCell ⟨w.heap.size, 3, none⟩ (.int .i64 s3)).setCell ⟨w.heap.size, 4, none⟩ (.int .i64 s4) := ⟨_, rfl⟩
    have PZ := five_back y0 y1 y2 y3 y4 W hW
    have DZ : Below w.heap.size w W := by rw [hW]; exact ((((d2.setCell (Nat.le_refl _) _).setCell (Nat.le_refl _) _).setCell (Nat.le_refl _) _).setCell (Nat.le_refl _) _).setCell (Nat.le_refl _) _
    rw [← hW]
    clear hW
    obtain ⟨p0, p1, p2, p3, p4⟩ := PZ
    exact bodyPost_ret (v := .tuple #[.agg #[.int .i64 s0, .int .i64 s1, .int .i64 s2, .int .i64 s3, .int .i64 s4], .int .i64 0]) (by simp [results, Try.results24, go_sem, p0, p1, p2, p3, p4]) rfl ⟨rfl, DZ⟩
  · have e0 : r0_SumOfDays xa0 = 0 := by unfold r0_SumOfDays; rw [hln, if_neg h]
    have e1 : r1_SumOfDays xa0 = 0 := by unfold r1_SumOfDays; rw [hln, if_neg h]
    have e2 : r2_SumOfDays xa0 = 0 := by unfold r2_SumOfDays; rw [hln, if_neg h]
    have e3 : r3_SumOfDays xa0 = 0 := by unfold r3_SumOfDays; rw [hln, if_neg h]
    have e4 : r4_SumOfDays xa0 = 0 := by unfold r4_SumOfDays; rw [hln, if_neg h]
    have e5 : r5_SumOfDays xa0 = wcode la0 xa0 True := by unfold r5_SumOfDays; rw [hln]
    rw [e0, e1, e2, e3, e4, e5]
    have e6 := wcode_ne (P := True) (fun g => h g.1)
    obtain ⟨C, hC⟩ : ∃ C, wcode la0 xa0 True = C := ⟨_, rfl⟩
    have HL := Lib.hid hC
    rw [hC] at e6 ⊢
    clear e0 e1 e2 e3 e4 e5 h hC
    go_enter Try.func24, Try.ntmps24
    go_wp2_with (first | (go_at_call 50; refine (runCode_t _ _ _ xa0 true True _ ha0 ((RA.out.below (by repeat (first | assumption | exact Below.refl _ _ | (refine Below.setCell ?_ (by first | omega | (simp; done) | (simp; omega)) _) | apply below_drewN | apply Below.drew | (refine Below.alloc ?_ (by first | omega | (simp; done) | (simp; omega)) _)))).mono (by first | omega | (simp; done) | (simp; omega))) rfl C HL.out).mono ?_; rintro e1 W1 ⟨rfl, b1⟩; have hz1 : w.heap.size < W1.heap.size := (by have := b1.size; simp at this; omega); have d1 : Below w.heap.size w W1 := (by repeat (first | assumption | exact Below.refl _ _ | (refine Below.trans ?_ (b1.mono (by first | omega | (simp; done) | (simp; omega)))) | (refine Below.setCell ?_ (by first | omega | (simp; done) | (simp; omega)) _) | apply below_drewN | apply Below.drew | (refine Below.alloc ?_ (by first | omega | (simp; done) | (simp; omega)) _))); obtain ⟨k1, f1⟩ := bcell b1; have z0 : W1.cell? ⟨w.heap.size, 0, none⟩ = some (.int .i64 0) := (by rw [k1 _ _ (by first | omega | (simp; done) | (simp; omega))]; first | (simp; done) | go_simp); have zf0 : W1.frozen? ⟨w.heap.size, 0, none⟩ = false := (by rw [f1 _ _ (by first | omega | (simp; done) | (simp; omega))]; first | (simp; done) | go_simp); have z1 : W1.cell? ⟨w.heap.size, 1, none⟩ = some (.int .i64 0) := (by rw [k1 _ _ (by first | omega | (simp; done) | (simp; omega))]; first | (simp; done) | go_simp); have zf1 : W1.frozen? ⟨w.heap.size, 1, none⟩ = false := (by rw [f1 _ _ (by first | omega | (simp; done) | (simp; omega))]; first | (simp; done) | go_simp); have z2 : W1.cell? ⟨w.heap.size, 2, none⟩ = some (.int .i64 0) := (by rw [k1 _ _ (by first | omega | (simp; done) | (simp; omega))]; first | (simp; done) | go_simp); have zf2 : W1.frozen? ⟨w.heap.size, 2, none⟩ = false := (by rw [f1 _ _ (by first | omega | (simp; done) | (simp; omega))]; first | (simp; done) | go_simp); have z3 : W1.cell? ⟨w.heap.size, 3, none⟩ = some (.int .i64 0) := (by rw [k1 _ _ (by first | omega | (simp; done) | (simp; omega))]; first | (simp; done) | go_simp); have zf3 : W1.frozen? ⟨w.heap.size, 3, none⟩ = false := (by rw [f1 _ _ (by first | omega | (simp; done) | (simp; omega))]; first | (simp; done) | go_simp); have z4 : W1.cell? ⟨w.heap.size, 4, none⟩ = some (.int .i64 0) := (by rw [k1 _ _ (by first | omega | (simp; done) | (simp; omega))]; first | (simp; done) | go_simp); have zf4 : W1.frozen? ⟨w.heap.size, 4, none⟩ = false := (by rw [f1 _ _ (by first | omega | (simp; done) | (simp; omega))]; first | (simp; done) | go_simp); clear k1 f1))
    obtain ⟨W, hW⟩ : ∃ W, W = ((((W1.setCell ⟨w.heap.size, 0, none⟩ (.int .i64 0)).setCell ⟨w.heap.size, 1, none⟩ (.int .i64 0)).setCell ⟨w.heap.size, 2, none⟩ (.int .i64 0)).setCell ⟨w.heap.size, 3, none⟩ (.int .i64 0)).setCell ⟨w.heap.size, 4, none⟩ (.int .i64 0) := ⟨_, rfl⟩
    have PZ := five_back z0 z1 z2 z3 z4 W hW
    have DZ : Below w.heap.size w W := by rw [hW]; exact ((((d1.setCell (Nat.le_refl _) _).setCell (Nat.le_refl _) _).setCell (Nat.le_refl _) _).setCell (Nat.le_refl _) _).setCell (Nat.le_refl _) _
    rw [← hW]
    clear hW
    obtain ⟨p0, p1, p2, p3, p4⟩ := PZ
    exact bodyPost_ret (v := .tuple #[.agg #[.int .i64 0, .int .i64 0, .int .i64 0, .int .i64 0, .int .i64 0], .int .i64 C]) (by simp [results, Try.results24, go_sem, p0, p1, p2, p3, p4]) rfl ⟨rfl, DZ⟩

end Go.Proofs.Ytfpfmfhhcgafcaa
