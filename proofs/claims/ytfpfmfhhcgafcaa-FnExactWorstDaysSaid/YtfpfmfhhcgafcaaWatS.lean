/- Days: the sums of the amounts, the volumes after each day: of the model and of the program. -/
import Derived.Test.YtfpfmfhhcgafcaaWatL
import Derived.Test.YtfpfmfhhcgafcaaOwnS
import Derived.Test.YtfpfmfhhcgafcaaOpen
import Derived.BigQuiet
namespace Go.Proofs.Ytfpfmfhhcgafcaa
open Go.RowKit

theorem AtWater.below {B b o : Nat} {w w' : World} {x : RWater} (h : AtWater w b o x) (hb : Below B w w') (hB : b < B) : AtWater w' b o x :=
  ⟨(hb.cell (p := ⟨b, o, none⟩) hB).trans h.1, (hb.cell (p := ⟨b, o + 1, none⟩) hB).trans h.2.1, (hb.cell (p := ⟨b, o + 2, none⟩) hB).trans h.2.2.1, (hb.cell (p := ⟨b, o + 3, none⟩) hB).trans h.2.2.2.1, (hb.cell (p := ⟨b, o + 4, none⟩) hB).trans h.2.2.2.2⟩
theorem sumW_succ (xs : List RWater) (k : Nat) {x0 x1 x2 x3 x4 s0 s1 s2 s3 s4 : Int} (hx : ⟨x0, x1, x2, x3, x4⟩ = xs.getD k zWater) (hs : ⟨s0, s1, s2, s3, s4⟩ = sumW xs k) : (⟨s0 + x0, s1 + x1, s2 + x2, s3 + x3, s4 + x4⟩ : RWater) = sumW xs (k + 1) := by
  unfold sumW
  simp only [amtW, ← hx]
  unfold sumW at hs
  injection hs with h0 h1 h2 h3 h4
  rw [h0, h1, h2, h3, h4]
theorem cell5 {W : World} {B i : Nat} (j : Nat) {o : Value} (v : Value) (h : W.cell? ⟨B, i, none⟩ = some o) : (W.setCell ⟨B, j, none⟩ v).drew.cell? ⟨B, i, none⟩ = some (if i = j then v else o) := by
  show (W.setCell ⟨B, j, none⟩ v).cell? ⟨B, i, none⟩ = _
  by_cases e : i = j
  · subst e; rw [if_pos rfl]; exact World.cell?_setCell_same W _ _ h
  · rw [if_neg e, World.cell?_setCell_other W _ _ _ (fun g => by injection g with _ g2; omega)]; exact h
theorem cell6 {W : World} {B C i : Nat} (j : Nat) {o : Value} (v : Value) (hn : B ≠ C) (h : W.cell? ⟨C, i, none⟩ = some o) : (W.setCell ⟨B, j, none⟩ v).drew.cell? ⟨C, i, none⟩ = some o := by
  show (W.setCell ⟨B, j, none⟩ v).cell? ⟨C, i, none⟩ = _
  rw [World.cell?_setCell_other W _ _ _ (fun g => by injection g with g1; omega)]; exact h
/-- the sum's box behind the result's box -/
structure Box5 (w wr : World) (s0 s1 s2 s3 s4 : Int) : Prop where
  hb : Below w.heap.size w wr
  hz : w.heap.size + 1 < wr.heap.size
  c0 : wr.cell? ⟨w.heap.size + 1, 0, none⟩ = some (.int .i64 s0)
  f0 : wr.frozen? ⟨w.heap.size + 1, 0, none⟩ = false
  r0 : wr.cell? ⟨w.heap.size, 0, none⟩ = some (.int .i64 0)
  g0 : wr.frozen? ⟨w.heap.size, 0, none⟩ = false
  c1 : wr.cell? ⟨w.heap.size + 1, 1, none⟩ = some (.int .i64 s1)
  f1 : wr.frozen? ⟨w.heap.size + 1, 1, none⟩ = false
  r1 : wr.cell? ⟨w.heap.size, 1, none⟩ = some (.int .i64 0)
  g1 : wr.frozen? ⟨w.heap.size, 1, none⟩ = false
  c2 : wr.cell? ⟨w.heap.size + 1, 2, none⟩ = some (.int .i64 s2)
  f2 : wr.frozen? ⟨w.heap.size + 1, 2, none⟩ = false
  r2 : wr.cell? ⟨w.heap.size, 2, none⟩ = some (.int .i64 0)
  g2 : wr.frozen? ⟨w.heap.size, 2, none⟩ = false
  c3 : wr.cell? ⟨w.heap.size + 1, 3, none⟩ = some (.int .i64 s3)
  f3 : wr.frozen? ⟨w.heap.size + 1, 3, none⟩ = false
  r3 : wr.cell? ⟨w.heap.size, 3, none⟩ = some (.int .i64 0)
  g3 : wr.frozen? ⟨w.heap.size, 3, none⟩ = false
  c4 : wr.cell? ⟨w.heap.size + 1, 4, none⟩ = some (.int .i64 s4)
  f4 : wr.frozen? ⟨w.heap.size + 1, 4, none⟩ = false
  r4 : wr.cell? ⟨w.heap.size, 4, none⟩ = some (.int .i64 0)
  g4 : wr.frozen? ⟨w.heap.size, 4, none⟩ = false
theorem Box5.put0 {w wr : World} {s0 s1 s2 s3 s4 : Int} (h : Box5 w wr s0 s1 s2 s3 s4) (v : Int) : Box5 w (wr.setCell ⟨w.heap.size + 1, 0, none⟩ (.int .i64 v)).drew v s1 s2 s3 s4 where
  hb := (h.hb.setCell (by show w.heap.size ≤ w.heap.size + 1; omega) _).drew
  hz := by have := h.hz; simpa [World.setCell] using this
  c0 := by simpa using cell5 (i := 0) 0 (.int .i64 v) h.c0
  f0 := by simpa using h.f0
  r0 := cell6 0 _ (by omega) h.r0
  g0 := by simpa using h.g0
  c1 := by simpa using cell5 (i := 1) 0 (.int .i64 v) h.c1
  f1 := by simpa using h.f1
  r1 := cell6 0 _ (by omega) h.r1
  g1 := by simpa using h.g1
  c2 := by simpa using cell5 (i := 2) 0 (.int .i64 v) h.c2
  f2 := by simpa using h.f2
  r2 := cell6 0 _ (by omega) h.r2
  g2 := by simpa using h.g2
  c3 := by simpa using cell5 (i := 3) 0 (.int .i64 v) h.c3
  f3 := by simpa using h.f3
  r3 := cell6 0 _ (by omega) h.r3
  g3 := by simpa using h.g3
  c4 := by simpa using cell5 (i := 4) 0 (.int .i64 v) h.c4
  f4 := by simpa using h.f4
  r4 := cell6 0 _ (by omega) h.r4
  g4 := by simpa using h.g4
theorem Box5.put1 {w wr : World} {s0 s1 s2 s3 s4 : Int} (h : Box5 w wr s0 s1 s2 s3 s4) (v : Int) : Box5 w (wr.setCell ⟨w.heap.size + 1, 1, none⟩ (.int .i64 v)).drew s0 v s2 s3 s4 where
  hb := (h.hb.setCell (by show w.heap.size ≤ w.heap.size + 1; omega) _).drew
  hz := by have := h.hz; simpa [World.setCell] using this
  c0 := by simpa using cell5 (i := 0) 1 (.int .i64 v) h.c0
  f0 := by simpa using h.f0
  r0 := cell6 1 _ (by omega) h.r0
  g0 := by simpa using h.g0
  c1 := by simpa using cell5 (i := 1) 1 (.int .i64 v) h.c1
  f1 := by simpa using h.f1
  r1 := cell6 1 _ (by omega) h.r1
  g1 := by simpa using h.g1
  c2 := by simpa using cell5 (i := 2) 1 (.int .i64 v) h.c2
  f2 := by simpa using h.f2
  r2 := cell6 1 _ (by omega) h.r2
  g2 := by simpa using h.g2
  c3 := by simpa using cell5 (i := 3) 1 (.int .i64 v) h.c3
  f3 := by simpa using h.f3
  r3 := cell6 1 _ (by omega) h.r3
  g3 := by simpa using h.g3
  c4 := by simpa using cell5 (i := 4) 1 (.int .i64 v) h.c4
  f4 := by simpa using h.f4
  r4 := cell6 1 _ (by omega) h.r4
  g4 := by simpa using h.g4
theorem Box5.put2 {w wr : World} {s0 s1 s2 s3 s4 : Int} (h : Box5 w wr s0 s1 s2 s3 s4) (v : Int) : Box5 w (wr.setCell ⟨w.heap.size + 1, 2, none⟩ (.int .i64 v)).drew s0 s1 v s3 s4 where
  hb := (h.hb.setCell (by show w.heap.size ≤ w.heap.size + 1; omega) _).drew
  hz := by have := h.hz; simpa [World.setCell] using this
  c0 := by simpa using cell5 (i := 0) 2 (.int .i64 v) h.c0
  f0 := by simpa using h.f0
  r0 := cell6 2 _ (by omega) h.r0
  g0 := by simpa using h.g0
  c1 := by simpa using cell5 (i := 1) 2 (.int .i64 v) h.c1
  f1 := by simpa using h.f1
  r1 := cell6 2 _ (by omega) h.r1
  g1 := by simpa using h.g1
  c2 := by simpa using cell5 (i := 2) 2 (.int .i64 v) h.c2
  f2 := by simpa using h.f2
  r2 := cell6 2 _ (by omega) h.r2
  g2 := by simpa using h.g2
  c3 := by simpa using cell5 (i := 3) 2 (.int .i64 v) h.c3
  f3 := by simpa using h.f3
  r3 := cell6 2 _ (by omega) h.r3
  g3 := by simpa using h.g3
  c4 := by simpa using cell5 (i := 4) 2 (.int .i64 v) h.c4
  f4 := by simpa using h.f4
  r4 := cell6 2 _ (by omega) h.r4
  g4 := by simpa using h.g4
theorem Box5.put3 {w wr : World} {s0 s1 s2 s3 s4 : Int} (h : Box5 w wr s0 s1 s2 s3 s4) (v : Int) : Box5 w (wr.setCell ⟨w.heap.size + 1, 3, none⟩ (.int .i64 v)).drew s0 s1 s2 v s4 where
  hb := (h.hb.setCell (by show w.heap.size ≤ w.heap.size + 1; omega) _).drew
  hz := by have := h.hz; simpa [World.setCell] using this
  c0 := by simpa using cell5 (i := 0) 3 (.int .i64 v) h.c0
  f0 := by simpa using h.f0
  r0 := cell6 3 _ (by omega) h.r0
  g0 := by simpa using h.g0
  c1 := by simpa using cell5 (i := 1) 3 (.int .i64 v) h.c1
  f1 := by simpa using h.f1
  r1 := cell6 3 _ (by omega) h.r1
  g1 := by simpa using h.g1
  c2 := by simpa using cell5 (i := 2) 3 (.int .i64 v) h.c2
  f2 := by simpa using h.f2
  r2 := cell6 3 _ (by omega) h.r2
  g2 := by simpa using h.g2
  c3 := by simpa using cell5 (i := 3) 3 (.int .i64 v) h.c3
  f3 := by simpa using h.f3
  r3 := cell6 3 _ (by omega) h.r3
  g3 := by simpa using h.g3
  c4 := by simpa using cell5 (i := 4) 3 (.int .i64 v) h.c4
  f4 := by simpa using h.f4
  r4 := cell6 3 _ (by omega) h.r4
  g4 := by simpa using h.g4
theorem Box5.put4 {w wr : World} {s0 s1 s2 s3 s4 : Int} (h : Box5 w wr s0 s1 s2 s3 s4) (v : Int) : Box5 w (wr.setCell ⟨w.heap.size + 1, 4, none⟩ (.int .i64 v)).drew s0 s1 s2 s3 v where
  hb := (h.hb.setCell (by show w.heap.size ≤ w.heap.size + 1; omega) _).drew
  hz := by have := h.hz; simpa [World.setCell] using this
  c0 := by simpa using cell5 (i := 0) 4 (.int .i64 v) h.c0
  f0 := by simpa using h.f0
  r0 := cell6 4 _ (by omega) h.r0
  g0 := by simpa using h.g0
  c1 := by simpa using cell5 (i := 1) 4 (.int .i64 v) h.c1
  f1 := by simpa using h.f1
  r1 := cell6 4 _ (by omega) h.r1
  g1 := by simpa using h.g1
  c2 := by simpa using cell5 (i := 2) 4 (.int .i64 v) h.c2
  f2 := by simpa using h.f2
  r2 := cell6 4 _ (by omega) h.r2
  g2 := by simpa using h.g2
  c3 := by simpa using cell5 (i := 3) 4 (.int .i64 v) h.c3
  f3 := by simpa using h.f3
  r3 := cell6 4 _ (by omega) h.r3
  g3 := by simpa using h.g3
  c4 := by simpa using cell5 (i := 4) 4 (.int .i64 v) h.c4
  f4 := by simpa using h.f4
  r4 := cell6 4 _ (by omega) h.r4
  g4 := by simpa using h.g4

set_option maxHeartbeats 6400000 in
theorem sumS_t (A : Option Addr) (n c : Nat) (xs : List RWater) (w : World) (hn : n ≤ 1048576) (ha : Rd_Water w w.heap.size A n xs) (hv : waList n xs) (t0 t1 t2 t3 t4 : Int) (ht : ⟨t0, t1, t2, t3, t4⟩ = sumW xs n) :
    Calls Try.prog 49 #[.slice A n c] w fun e w' => e = .returned (.agg #[.int .i64 t0, .int .i64 t1, .int .i64 t2, .int .i64 t3, .int .i64 t4]) ∧ Below w.heap.size w w' := by
  have HA := Lib.hid ha
  have HV := Lib.hid hv.1
  have h100 := hv.2
  have HT := Lib.hid ht
  clear ha hv ht
  go_enter Try.func49, Try.ntmps49
  go_wp2
  go_loopw [4] (fun i wr => ∃ k : Nat, k ≤ n ∧ i = .int .i64 (k : Int) ∧ ∃ s0 s1 s2 s3 s4 : Int, Hid (⟨s0, s1, s2, s3, s4⟩ = sumW xs k) ∧ Hid (Box5 w wr s0 s1 s2 s3 s4)) (fun i _ => n - (intOf i).toNat)
  case atStart => exact ⟨0, by omega, rfl, 0, 0, 0, 0, 0, Lib.hid rfl, Lib.hid ⟨(by repeat (first | assumption | exact Below.refl _ _ | (refine Below.setCell ?_ (by first | omega | (simp; done) | (simp; omega)) _) | apply below_drewN | apply Below.drew | (refine Below.alloc ?_ (by first | omega | (simp; done) | (simp; omega)) _))), by simp, by first | (simp; done) | go_simp, by first | (simp; done) | go_simp, by first | (simp; done) | go_simp, by first | (simp; done) | go_simp, by first | (simp; done) | go_simp, by first | (simp; done) | go_simp, by first | (simp; done) | go_simp, by first | (simp; done) | go_simp, by first | (simp; done) | go_simp, by first | (simp; done) | go_simp, by first | (simp; done) | go_simp, by first | (simp; done) | go_simp, by first | (simp; done) | go_simp, by first | (simp; done) | go_simp, by first | (simp; done) | go_simp, by first | (simp; done) | go_simp, by first | (simp; done) | go_simp, by first | (simp; done) | go_simp, by first | (simp; done) | go_simp, by first | (simp; done) | go_simp⟩⟩
  case round =>
    obtain ⟨k, hk, rfl, s0, s1, s2, s3, s4, hs, hbox⟩ := hrel
    have hb := hbox.out.hb
    have hz := hbox.out.hz
    by_cases hlt : k < n
    · obtain ⟨ab, o, rfl, hbB, hc⟩ := HA.out.at (by omega)
      have p := hc k hlt
      clear hc
      have hw := HV.out k hlt
      have hbd := sumW_bd HV.out k hk
      rw [← hs.out] at hbd
      obtain ⟨x, hx⟩ := getZW xs k
      rw [← hx] at p hw
      obtain ⟨x0, x1, x2, x3, x4⟩ := x
      have HS := Lib.hid (sumW_succ xs k hx hs.out)
      clear hx
      have P0 := Lib.hid p
      obtain ⟨⟨q0, q0'⟩, ⟨q1, q1'⟩, ⟨q2, q2'⟩, ⟨q3, q3'⟩, ⟨q4, q4'⟩⟩ := hw
      obtain ⟨⟨r0, r0'⟩, ⟨r1, r1'⟩, ⟨r2, r2'⟩, ⟨r3, r3'⟩, ⟨r4, r4'⟩⟩ := hbd
      simp only at q0 q0' q1 q1' q2 q2' q3 q3' q4 q4' r0 r0' r1 r1' r2 r2' r3 r3' r4 r4'
      have f0 := IntWalk.i64_in (s0 + x0) (by omega)
      have f1 := IntWalk.i64_in (s1 + x1) (by omega)
      have f2 := IntWalk.i64_in (s2 + x2) (by omega)
      have f3 := IntWalk.i64_in (s3 + x3) (by omega)
      have f4 := IntWalk.i64_in (s4 + x4) (by omega)
      have hi := IntWalk.i64_in (k : Int) (by omega)
      clear p HV hs q0 q0' q1 q1' q2 q2' q3 q3' q4 q4' r0 r0' r1 r1' r2 r2' r3 r3' r4 r4'
      have p0 := ((hbox.out.hb.cell (p := ⟨ab, o + k * 5, none⟩) hbB).trans P0.out.1)
      have z0 := hbox.out.c0
      have zf0 := hbox.out.f0
      go_wp2_with fail
      go_region
      go_wp2_with fail
      have st0 := Lib.hid (hbox.out.put0 (s0 + x0))
      generalize (wr.setCell ⟨w.heap.size + 1, 0, none⟩ (.int .i64 (s0 + x0))).drew = W0 at st0 ⊢
      clear p0 z0 zf0 hbox
      have p1 := ((st0.out.hb.cell (p := ⟨ab, o + k * 5 + 1, none⟩) hbB).trans P0.out.2.1)
      have z1 := st0.out.c1
      have zf1 := st0.out.f1
      go_wp2_with fail
      go_region
      go_wp2_with fail
      have st1 := Lib.hid (st0.out.put1 (s1 + x1))
      generalize (W0.setCell ⟨w.heap.size + 1, 1, none⟩ (.int .i64 (s1 + x1))).drew = W1 at st1 ⊢
      clear p1 z1 zf1 st0
      have p2 := ((st1.out.hb.cell (p := ⟨ab, o + k * 5 + 2, none⟩) hbB).trans P0.out.2.2.1)
      have z2 := st1.out.c2
      have zf2 := st1.out.f2
      go_wp2_with fail
      go_region
      go_wp2_with fail
      have st2 := Lib.hid (st1.out.put2 (s2 + x2))
      generalize (W1.setCell ⟨w.heap.size + 1, 2, none⟩ (.int .i64 (s2 + x2))).drew = W2 at st2 ⊢
      clear p2 z2 zf2 st1
      have p3 := ((st2.out.hb.cell (p := ⟨ab, o + k * 5 + 3, none⟩) hbB).trans P0.out.2.2.2.1)
      have z3 := st2.out.c3
      have zf3 := st2.out.f3
      go_wp2_with fail
      go_region
      go_wp2_with fail
      have st3 := Lib.hid (st2.out.put3 (s3 + x3))
      generalize (W2.setCell ⟨w.heap.size + 1, 3, none⟩ (.int .i64 (s3 + x3))).drew = W3 at st3 ⊢
      clear p3 z3 zf3 st2
      have p4 := ((st3.out.hb.cell (p := ⟨ab, o + k * 5 + 4, none⟩) hbB).trans P0.out.2.2.2.2)
      have z4 := st3.out.c4
      have zf4 := st3.out.f4
      go_wp2_with fail
      go_region
      go_wp2_with fail
      have st4 := Lib.hid (st3.out.put4 (s4 + x4))
      generalize (W3.setCell ⟨w.heap.size + 1, 4, none⟩ (.int .i64 (s4 + x4))).drew = W4 at st4 ⊢
      clear p4 z4 zf4 st3
      go_roundw
      case rel => exact ⟨k + 1, by omega, by go_num, _, _, _, _, _, HS, st4⟩
      case measure => simp [intOf]; omega
    · obtain rfl : k = n := by omega
      have e := HT.out.trans hs.out.symm
      injection e with e0 e1 e2 e3 e4
      subst e0 e1 e2 e3 e4
      obtain ⟨_, _, c0, f0, r0, g0, c1, f1, r1, g1, c2, f2, r2, g2, c3, f3, r3, g3, c4, f4, r4, g4⟩ := hbox.out
      go_wp2
      exact bodyPost_ret (v := .agg #[.int .i64 t0, .int .i64 t1, .int .i64 t2, .int .i64 t3, .int .i64 t4]) (by simp [results, Try.results49, go_sem, r0, r1, r2, r3, r4]) rfl ⟨rfl, (by repeat (first | assumption | exact Below.refl _ _ | (refine Below.trans ?_ (hb.mono (by first | omega | (simp; done) | (simp; omega)))) | (refine Below.setCell ?_ (by first | omega | (simp; done) | (simp; omega)) _) | apply below_drewN | apply Below.drew | (refine Below.alloc ?_ (by first | omega | (simp; done) | (simp; omega)) _)))⟩

end Go.Proofs.Ytfpfmfhhcgafcaa
