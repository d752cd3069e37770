/- Days: the sums of the amounts: of the program. -/
import Derived.Test.YtfpfmfhhcgafcaaWatS
namespace Go.Proofs.Ytfpfmfhhcgafcaa
open Go.RowKit

theorem Box5.mid {w wr W : World} {s0 s1 s2 s3 s4 : Int} (h : Box5 w wr s0 s1 s2 s3 s4) (hb : Below wr.heap.size wr W) : Box5 w W s0 s1 s2 s3 s4 where
  hb := h.hb.trans (hb.mono h.hb.size)
  hz := Nat.lt_of_lt_of_le h.hz hb.size
  c0 := (hb.cell (p := ⟨w.heap.size + 1, 0, none⟩) h.hz).trans h.c0
  f0 := (hb.frozen (p := ⟨w.heap.size + 1, 0, none⟩) h.hz).trans h.f0
  r0 := (hb.cell (p := ⟨w.heap.size, 0, none⟩) (by have := h.hz; show w.heap.size < _; omega)).trans h.r0
  g0 := (hb.frozen (p := ⟨w.heap.size, 0, none⟩) (by have := h.hz; show w.heap.size < _; omega)).trans h.g0
  c1 := (hb.cell (p := ⟨w.heap.size + 1, 1, none⟩) h.hz).trans h.c1
  f1 := (hb.frozen (p := ⟨w.heap.size + 1, 1, none⟩) h.hz).trans h.f1
  r1 := (hb.cell (p := ⟨w.heap.size, 1, none⟩) (by have := h.hz; show w.heap.size < _; omega)).trans h.r1
  g1 := (hb.frozen (p := ⟨w.heap.size, 1, none⟩) (by have := h.hz; show w.heap.size < _; omega)).trans h.g1
  c2 := (hb.cell (p := ⟨w.heap.size + 1, 2, none⟩) h.hz).trans h.c2
  f2 := (hb.frozen (p := ⟨w.heap.size + 1, 2, none⟩) h.hz).trans h.f2
  r2 := (hb.cell (p := ⟨w.heap.size, 2, none⟩) (by have := h.hz; show w.heap.size < _; omega)).trans h.r2
  g2 := (hb.frozen (p := ⟨w.heap.size, 2, none⟩) (by have := h.hz; show w.heap.size < _; omega)).trans h.g2
  c3 := (hb.cell (p := ⟨w.heap.size + 1, 3, none⟩) h.hz).trans h.c3
  f3 := (hb.frozen (p := ⟨w.heap.size + 1, 3, none⟩) h.hz).trans h.f3
  r3 := (hb.cell (p := ⟨w.heap.size, 3, none⟩) (by have := h.hz; show w.heap.size < _; omega)).trans h.r3
  g3 := (hb.frozen (p := ⟨w.heap.size, 3, none⟩) (by have := h.hz; show w.heap.size < _; omega)).trans h.g3
  c4 := (hb.cell (p := ⟨w.heap.size + 1, 4, none⟩) h.hz).trans h.c4
  f4 := (hb.frozen (p := ⟨w.heap.size + 1, 4, none⟩) h.hz).trans h.f4
  r4 := (hb.cell (p := ⟨w.heap.size, 4, none⟩) (by have := h.hz; show w.heap.size < _; omega)).trans h.r4
  g4 := (hb.frozen (p := ⟨w.heap.size, 4, none⟩) (by have := h.hz; show w.heap.size < _; omega)).trans h.g4
theorem Box5.undrew {w W : World} {s0 s1 s2 s3 s4 : Int} (h : Box5 w W.drew s0 s1 s2 s3 s4) : Box5 w W s0 s1 s2 s3 s4 where
  hb := let g := h.hb; ⟨g.os, g.tape, g.output, g.size, g.block⟩
  hz := h.hz
  c0 := h.c0
  f0 := h.f0
  r0 := h.r0
  g0 := h.g0
  c1 := h.c1
  f1 := h.f1
  r1 := h.r1
  g1 := h.g1
  c2 := h.c2
  f2 := h.f2
  r2 := h.r2
  g2 := h.g2
  c3 := h.c3
  f3 := h.f3
  r3 := h.r3
  g3 := h.g3
  c4 := h.c4
  f4 := h.f4
  r4 := h.r4
  g4 := h.g4
theorem Box5.all {w W : World} {s0 s1 s2 s3 s4 : Int} (h : Box5 w W s0 s1 s2 s3 s4) (v0 v1 v2 v3 v4 : Int) : Box5 w (((((W.setCell ⟨w.heap.size + 1, 0, none⟩ (.int .i64 v0)).setCell ⟨w.heap.size + 1, 1, none⟩ (.int .i64 v1)).setCell ⟨w.heap.size + 1, 2, none⟩ (.int .i64 v2)).setCell ⟨w.heap.size + 1, 3, none⟩ (.int .i64 v3)).setCell ⟨w.heap.size + 1, 4, none⟩ (.int .i64 v4)) v0 v1 v2 v3 v4 :=
  (((((h.put0 v0).undrew.put1 v1).undrew.put2 v2).undrew.put3 v3).undrew.put4 v4).undrew

set_option maxHeartbeats 1600000 in
theorem plusI_t (x0 x1 x2 x3 x4 y0 y1 y2 y3 y4 : Int) (w : World) (hx : 0 ≤ x0 ∧ x0 ≤ 10000000000 ∧ 0 ≤ x1 ∧ x1 ≤ 10000000000 ∧ 0 ≤ x2 ∧ x2 ≤ 10000000000 ∧ 0 ≤ x3 ∧ x3 ≤ 10000000000 ∧ 0 ≤ x4 ∧ x4 ≤ 10000000000) (hy : 0 ≤ y0 ∧ y0 ≤ 10000000000 ∧ 0 ≤ y1 ∧ y1 ≤ 10000000000 ∧ 0 ≤ y2 ∧ y2 ≤ 10000000000 ∧ 0 ≤ y3 ∧ y3 ≤ 10000000000 ∧ 0 ≤ y4 ∧ y4 ≤ 10000000000) :
    Calls Try.prog 72 #[.agg #[.int .i64 x0, .int .i64 x1, .int .i64 x2, .int .i64 x3, .int .i64 x4], .agg #[.int .i64 y0, .int .i64 y1, .int .i64 y2, .int .i64 y3, .int .i64 y4]] w fun e w' => e = .returned (.agg #[.int .i64 (x0 + y0), .int .i64 (x1 + y1), .int .i64 (x2 + y2), .int .i64 (x3 + y3), .int .i64 (x4 + y4)]) ∧ Below w.heap.size w w' := by
  obtain ⟨ux0, ux0m, ux1, ux1m, ux2, ux2m, ux3, ux3m, ux4, ux4m⟩ := hx
  obtain ⟨uy0, uy0m, uy1, uy1m, uy2, uy2m, uy3, uy3m, uy4, uy4m⟩ := hy
  go_enter Try.func72, Try.ntmps72
  go_wp2
  exact bodyPost_ret (v := .agg #[.int .i64 (x0 + y0), .int .i64 (x1 + y1), .int .i64 (x2 + y2), .int .i64 (x3 + y3), .int .i64 (x4 + y4)]) (by simp [results, Try.results72, go_sem]) rfl ⟨rfl, (by repeat (first | assumption | exact Below.refl _ _ | (refine Below.setCell ?_ (by first | omega | (simp; done) | (simp; omega)) _) | apply below_drewN | apply Below.drew | (refine Below.alloc ?_ (by first | omega | (simp; done) | (simp; omega)) _)))⟩

theorem sum_small {n : Nat} {xs : List RWater} (h : waAll n xs) (hn : n ≤ 100) (k : Nat) (hk : k ≤ n) {s0 s1 s2 s3 s4 : Int} (hs : ⟨s0, s1, s2, s3, s4⟩ = sumW xs k) : 0 ≤ s0 ∧ s0 ≤ 10000000000 ∧ 0 ≤ s1 ∧ s1 ≤ 10000000000 ∧ 0 ≤ s2 ∧ s2 ≤ 10000000000 ∧ 0 ≤ s3 ∧ s3 ≤ 10000000000 ∧ 0 ≤ s4 ∧ s4 ≤ 10000000000 := by
  have g := sumW_bd h k hk
  rw [← hs] at g
  obtain ⟨⟨r0, r0'⟩, ⟨r1, r1'⟩, ⟨r2, r2'⟩, ⟨r3, r3'⟩, ⟨r4, r4'⟩⟩ := g
  simp only at r0 r0' r1 r1' r2 r2' r3 r3' r4 r4'
  omega
theorem wa_small2 {x0 x1 x2 x3 x4 : Int} (h : waR ⟨x0, x1, x2, x3, x4⟩) : 0 ≤ x0 ∧ x0 ≤ 10000000000 ∧ 0 ≤ x1 ∧ x1 ≤ 10000000000 ∧ 0 ≤ x2 ∧ x2 ≤ 10000000000 ∧ 0 ≤ x3 ∧ x3 ≤ 10000000000 ∧ 0 ≤ x4 ∧ x4 ≤ 10000000000 := by
  obtain ⟨⟨r0, r0'⟩, ⟨r1, r1'⟩, ⟨r2, r2'⟩, ⟨r3, r3'⟩, ⟨r4, r4'⟩⟩ := h
  simp only at r0 r0' r1 r1' r2 r2' r3 r3' r4 r4'
  omega

set_option maxHeartbeats 3200000 in
theorem sumI_t (A : Option Addr) (n c : Nat) (xs : List RWater) (w : World) (hn : n ≤ 1048576) (ha : Rd_Water w w.heap.size A n xs) (hv : waList n xs) (t0 t1 t2 t3 t4 : Int) (ht : ⟨t0, t1, t2, t3, t4⟩ = sumW xs n) :
    Calls Try.prog 51 #[.slice A n c] w fun e w' => e = .returned (.agg #[.int .i64 t0, .int .i64 t1, .int .i64 t2, .int .i64 t3, .int .i64 t4]) ∧ Below w.heap.size w w' := by
  have HA := Lib.hid ha
  have HV := Lib.hid hv.1
  have h100 := hv.2
  have HT := Lib.hid ht
  clear ha hv ht
  go_enter Try.func51, Try.ntmps51
  go_wp2
  go_loopw [5, 8] (fun _ i wr => ∃ k : Nat, k ≤ n ∧ i = .int .i64 (k : Int) ∧ ∃ s0 s1 s2 s3 s4 : Int, Hid (⟨s0, s1, s2, s3, s4⟩ = sumW xs k) ∧ Hid (Box5 w wr s0 s1 s2 s3 s4)) (fun _ i _ => n - (intOf i).toNat)
  case atStart => exact ⟨0, by omega, rfl, 0, 0, 0, 0, 0, Lib.hid rfl, Lib.hid ⟨(by repeat (first | assumption | exact Below.refl _ _ | (refine Below.setCell ?_ (by first | omega | (simp; done) | (simp; omega)) _) | apply below_drewN | apply Below.drew | (refine Below.alloc ?_ (by first | omega | (simp; done) | (simp; omega)) _))), by simp, by first | (simp; done) | go_simp, by first | (simp; done) | go_simp, by first | (simp; done) | go_simp, by first | (simp; done) | go_simp, by first | (simp; done) | go_simp, by first | (simp; done) | go_simp, by first | (simp; done) | go_simp, by first | (simp; done) | go_simp, by first | (simp; done) | go_simp, by first | (simp; done) | go_simp, by first | (simp; done) | go_simp, by first | (simp; done) | go_simp, by first | (simp; done) | go_simp, by first | (simp; done) | go_simp, by first | (simp; done) | go_simp, by first | (simp; done) | go_simp, by first | (simp; done) | go_simp, by first | (simp; done) | go_simp, by first | (simp; done) | go_simp, by first | (simp; done) | go_simp⟩⟩
  case round =>
    obtain ⟨k, hk, rfl, s0, s1, s2, s3, s4, hs, hbox⟩ := hrel
    have hb := hbox.out.hb
    have hz := hbox.out.hz
    by_cases hlt : k < n
    · obtain ⟨ab, o, rfl, hbB, hc⟩ := (HA.out.below hb).at (by omega)
      have p := hc k hlt
      clear hc
      have hw := HV.out k hlt
      obtain ⟨x, hx⟩ := getZW xs k
      rw [← hx] at p hw
      obtain ⟨x0, x1, x2, x3, x4⟩ := x
      have HS := Lib.hid (sumW_succ xs k hx hs.out)
      have SX := Lib.hid (wa_small2 hw)
      have SS := Lib.hid (sum_small HV.out h100 k hk hs.out)
      clear hx hw
      obtain ⟨p0, p1, p2, p3, p4⟩ := p
      simp only at p0 p1 p2 p3 p4
      obtain ⟨_, _, z0, zf0, _, _, z1, zf1, _, _, z2, zf2, _, _, z3, zf3, _, _, z4, zf4, _, _⟩ := hbox.out
      have hi := IntWalk.i64_in (k : Int) (by omega)
      go_wp2_with (go_at_call 72; refine (plusI_t s0 s1 s2 s3 s4 x0 x1 x2 x3 x4 _ SS.out SX.out).mono ?_; rintro e1 W1 ⟨rfl, b1⟩; have BX := Lib.hid ((hbox.out.mid (W := W1) (by repeat (first | assumption | exact Below.refl _ _ | (refine Below.trans ?_ (b1.mono (by first | omega | (simp; done) | (simp; omega)))) | (refine Below.setCell ?_ (by first | omega | (simp; done) | (simp; omega)) _) | apply below_drewN | apply Below.drew | (refine Below.alloc ?_ (by first | omega | (simp; done) | (simp; omega)) _))))); have y0 := BX.out.f0; have y1 := BX.out.f1; have y2 := BX.out.f2; have y3 := BX.out.f3; have y4 := BX.out.f4; have q0 := BX.out.c0; have q1 := BX.out.c1; have q2 := BX.out.c2; have q3 := BX.out.c3; have q4 := BX.out.c4)
      go_roundw
      case rel => exact ⟨k + 1, by omega, by go_num, _, _, _, _, _, HS, Lib.hid (BX.out.all _ _ _ _ _)⟩
      case measure => simp [intOf]; omega
    · obtain rfl : k = n := by omega
      have e := HT.out.trans hs.out.symm
      injection e with e0 e1 e2 e3 e4
      subst e0 e1 e2 e3 e4
      obtain ⟨_, _, c0, f0, r0, g0, c1, f1, r1, g1, c2, f2, r2, g2, c3, f3, r3, g3, c4, f4, r4, g4⟩ := hbox.out
      go_wp2
      exact bodyPost_ret (v := .agg #[.int .i64 t0, .int .i64 t1, .int .i64 t2, .int .i64 t3, .int .i64 t4]) (by simp [results, Try.results51, go_sem, r0, r1, r2, r3, r4]) rfl ⟨rfl, (by repeat (first | assumption | exact Below.refl _ _ | (refine Below.trans ?_ (hb.mono (by first | omega | (simp; done) | (simp; omega)))) | (refine Below.setCell ?_ (by first | omega | (simp; done) | (simp; omega)) _) | apply below_drewN | apply Below.drew | (refine Below.alloc ?_ (by first | omega | (simp; done) | (simp; omega)) _)))⟩

end Go.Proofs.Ytfpfmfhhcgafcaa
