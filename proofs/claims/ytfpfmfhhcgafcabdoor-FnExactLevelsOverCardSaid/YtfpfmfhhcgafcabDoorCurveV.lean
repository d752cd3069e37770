/- Contracts of the program over a curve: growth behind a knot, volume at a level. -/
import Derived.Test.YtfpfmfhhcgafcabDoorCurveI
namespace Go.Proofs.YtfpfmfhhcgafcabDoor
open Go.RowKit

set_option maxHeartbeats 1600000 in
theorem growthAfter_t (A0 : Option Addr) (n0 k0 : Nat) (ls : List Int) (A1 : Option Addr) (n1 k1 : Nat) (vs : List Int) (k : Nat) (y : Int) (w : World) (hn0 : n0 ≤ 1048576) (ha : Rd w w.heap.size A0 n0 ls) (hv : Rd w w.heap.size A1 n1 vs) (hp : Part ls vs y k) (x0 x1 v0 v1 : Int) (e0 : x0 = ls.getD k 0) (e1 : x1 = ls.getD (k + 1) 0) (e2 : v0 = vs.getD k 0) (e3 : v1 = vs.getD (k + 1) 0) :
    Calls Tryd.prog 47 #[.agg #[.slice A0 n0 k0, .slice A1 n1 k1], .int .i64 (k : Int)] w fun e w' => e = .returned (.tuple #[.int .i64 (v1 - v0), .int .i64 (x1 - x0)]) ∧ Below w.heap.size w w' := by
  have hl0 := ha.1
  have hl1 := hv.1
  have hlt := hp.lt
  have hltv := hp.ltv
  have g1 := hp.l0
  have g2 := hp.ly
  have g3 := hp.yl
  have g4 := hp.l1
  have g5 := hp.ll
  have g6 := hp.v0
  have g7 := hp.vv
  have g8 := hp.v1
  rw [← e0] at g1 g2 g5
  rw [← e1] at g3 g4 g5
  rw [← e2] at g6 g7
  rw [← e3] at g7 g8
  obtain ⟨ab, o, rfl, hB, hc⟩ := ha.2 (by omega)
  obtain ⟨ab', o', rfl, hB', hc'⟩ := hv.2 (by omega)
  have p0 := hc k (by omega)
  have p1 := hc (k + 1) (by omega)
  have r0 := hc' k (by omega)
  have r1 := hc' (k + 1) (by omega)
  rw [← e0] at p0
  rw [← e1] at p1
  rw [← e2] at r0
  rw [← e3] at r1
  have i0 : k < n0 := by omega
  have i1 : k + 1 < n0 := by omega
  have i2 : k < n1 := by omega
  have i3 : k + 1 < n1 := by omega
  have i4 : (k : Int) + 1 < (n0 : Int) := by omega
  have i5 : (k : Int) + 1 < (n1 : Int) := by omega
  clear hc hc' ha hv hp e0 e1 e2 e3
  go_enter Tryd.func47, Tryd.ntmps47
  go_wp2
  go_quiet (fail)
  go_wp2
  go_ret2
  exact ⟨rfl, (by repeat (first | assumption | exact Below.refl _ _ | (refine Below.setCell ?_ (by first | omega | (simp; done) | (simp; omega)) _) | apply below_drewN | apply Below.drew | (refine Below.alloc ?_ (by first | omega | (simp; done) | (simp; omega)) _)))⟩

set_option maxHeartbeats 1600000 in
theorem volumeAt_t (A0 : Option Addr) (n0 k0 : Nat) (ls : List Int) (A1 : Option Addr) (n1 k1 : Nat) (vs : List Int) (y : Int) (w : World) (hn0 : n0 ≤ 1048576) (ha : Rd w w.heap.size A0 n0 ls) (hv : Rd w w.heap.size A1 n1 vs) (h : CurveOk ls vs) (hy : onC ls y) :
    Calls Tryd.prog 29 #[.agg #[.slice A0 n0 k0, .slice A1 n1 k1], .int .i64 y] w fun e w' => e = .returned (.int .i64 (vAt ls vs y)) ∧ Below w.heap.size w w' := by
  have hl0 := ha.1
  have hl1 := hv.1
  have HA := Lib.hid ha
  have HV := Lib.hid hv
  have HC := Lib.hid h
  have hlen := h.1
  have part := h.part hy
  have HP := Lib.hid part
  have hlt := part.lt
  have hltv := part.ltv
  have m1 := part.mul
  have m2 := part.div
  have g1 := part.l0
  have g2 := part.ly
  have g3 := part.yl
  have g4 := part.l1
  have g5 := part.ll
  have g6 := part.v0
  have g7 := part.vv
  have g8 := part.v1
  unfold vAt
  clear part h
  generalize hk : kn ls y = k at *
  have HK := Lib.hid hk
  clear hk
  obtain ⟨ab, o, rfl, hB, hc⟩ := ha.2 (by omega)
  obtain ⟨ab', o', rfl, hB', hc'⟩ := hv.2 (by omega)
  have p0 := hc k (by omega)
  have r0 := hc' k (by omega)
  clear hc hc' ha hv
  obtain ⟨x0, e0⟩ : ∃ x, x = ls.getD k 0 := ⟨_, rfl⟩
  obtain ⟨x1, e1⟩ : ∃ x, x = ls.getD (k + 1) 0 := ⟨_, rfl⟩
  obtain ⟨v0, e2⟩ : ∃ x, x = vs.getD k 0 := ⟨_, rfl⟩
  obtain ⟨v1, e3⟩ : ∃ x, x = vs.getD (k + 1) 0 := ⟨_, rfl⟩
  rw [← e0, ← e1, ← e2, ← e3]
  simp only [← e0, ← e1, ← e2, ← e3] at m1 m2 g1 g2 g3 g4 g5 g6 g7 g8 p0 r0
  have E0 := Lib.hid e0
  have E1 := Lib.hid e1
  have E2 := Lib.hid e2
  have E3 := Lib.hid e3
  clear e0 e1 e2 e3
  obtain ⟨m1a, m1b⟩ := m1
  obtain ⟨m2a, m2b⟩ := m2
  have i0 : k < n0 := by omega
  have i2 : k < n1 := by omega
  go_enter Tryd.func29, Tryd.ntmps29
  go_wp2_with fail
  refine (knotBelow_t _ n0 k0 ls _ n1 k1 vs _ _ hn0 ((HA.out.below (by repeat (first | assumption | exact Below.refl _ _ | (refine Below.setCell ?_ (by first | omega | (simp; done) | (simp; omega)) _) | apply below_drewN | apply Below.drew | (refine Below.alloc ?_ (by first | omega | (simp; done) | (simp; omega)) _)))).mono (by first | omega | (simp; done) | (simp; omega))) HC.out).mono ?_
  rintro e1 W1 ⟨rfl, b1⟩
  rw [HK.out]
  have s1 : w.heap.size < W1.heap.size := by have := b1.size; (try simp at this); omega
  obtain ⟨kb, fb⟩ := bcell b1
  have z0 : W1.cell? ⟨w.heap.size, 0, none⟩ = some (.slice (some ⟨ab, o, none⟩) n0 k0) := (by rw [kb _ _ (by first | omega | (simp; done) | (simp; omega))]; first | (simp; done) | go_simp); have zf0 : W1.frozen? ⟨w.heap.size, 0, none⟩ = false := (by rw [fb _ _ (by first | omega | (simp; done) | (simp; omega))]; first | (simp; done) | go_simp); have z1 : W1.cell? ⟨w.heap.size, 1, none⟩ = some (.slice (some ⟨ab', o', none⟩) n1 k1) := (by rw [kb _ _ (by first | omega | (simp; done) | (simp; omega))]; first | (simp; done) | go_simp); have zf1 : W1.frozen? ⟨w.heap.size, 1, none⟩ = false := (by rw [fb _ _ (by first | omega | (simp; done) | (simp; omega))]; first | (simp; done) | go_simp)
  clear kb fb
  have d1 : Below w.heap.size w W1 := (by repeat (first | assumption | exact Below.refl _ _ | (refine Below.trans ?_ (b1.mono (by first | omega | (simp; done) | (simp; omega)))) | (refine Below.setCell ?_ (by first | omega | (simp; done) | (simp; omega)) _) | apply below_drewN | apply Below.drew | (refine Below.alloc ?_ (by first | omega | (simp; done) | (simp; omega)) _)))
  go_wp2_with fail
  refine (growthAfter_t _ n0 k0 ls _ n1 k1 vs k y _ hn0 ((HA.out.below d1).mono (by first | omega | (simp; done) | (simp; omega))) ((HV.out.below d1).mono (by first | omega | (simp; done) | (simp; omega))) HP.out x0 x1 v0 v1 E0.out E1.out E2.out E3.out).mono ?_
  rintro e2 W2 ⟨rfl, b2⟩
  have s2 : w.heap.size < W2.heap.size := by have := b2.size; (try simp at this); omega
  have y0 : W2.cell? ⟨w.heap.size, 0, none⟩ = _ := (b2.cell (p := ⟨w.heap.size, 0, none⟩) (show w.heap.size < _ from (by first | omega | (simp; done) | (simp; omega)))).trans z0; have yf0 : W2.frozen? ⟨w.heap.size, 0, none⟩ = _ := (b2.frozen (p := ⟨w.heap.size, 0, none⟩) (show w.heap.size < _ from (by first | omega | (simp; done) | (simp; omega)))).trans zf0; have y1 : W2.cell? ⟨w.heap.size, 1, none⟩ = _ := (b2.cell (p := ⟨w.heap.size, 1, none⟩) (show w.heap.size < _ from (by first | omega | (simp; done) | (simp; omega)))).trans z1; have yf1 : W2.frozen? ⟨w.heap.size, 1, none⟩ = _ := (b2.frozen (p := ⟨w.heap.size, 1, none⟩) (show w.heap.size < _ from (by first | omega | (simp; done) | (simp; omega)))).trans zf1
  have d2 : Below w.heap.size w W2 := (by repeat (first | assumption | exact Below.refl _ _ | (refine Below.trans ?_ (b2.mono (by first | omega | (simp; done) | (simp; omega)))) | (refine Below.trans ?_ (d1.mono (by first | omega | (simp; done) | (simp; omega)))) | (refine Below.setCell ?_ (by first | omega | (simp; done) | (simp; omega)) _) | apply below_drewN | apply Below.drew | (refine Below.alloc ?_ (by first | omega | (simp; done) | (simp; omega)) _)))
  have q0 := (d2.cell (p := ⟨ab, o + k, none⟩) hB).trans p0
  have t0 := (d2.cell (p := ⟨ab', o' + k, none⟩) hB').trans r0
  go_wp2
  go_quiet (fail)
  go_wp2
  go_ret
  exact ⟨rfl, (by repeat (first | assumption | exact Below.refl _ _ | (refine Below.trans ?_ (d2.mono (by first | omega | (simp; done) | (simp; omega)))) | (refine Below.setCell ?_ (by first | omega | (simp; done) | (simp; omega)) _) | apply below_drewN | apply Below.drew | (refine Below.alloc ?_ (by first | omega | (simp; done) | (simp; omega)) _)))⟩

end Go.Proofs.YtfpfmfhhcgafcabDoor
