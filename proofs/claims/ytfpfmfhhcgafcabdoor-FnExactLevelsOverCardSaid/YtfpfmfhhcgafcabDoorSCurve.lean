/- Contracts of the laws' helpers over the struct Curve: size, copy, equal, mark, held. -/
import Derived.Test.YtfpfmfhhcgafcabDoorReg
import Derived.Deep.RegionHeld3
namespace Go.Proofs.YtfpfmfhhcgafcabDoor
open Go.RowKit

theorem Chg.then {lo hi : Nat} {a b c : World} (h : Chg lo hi a b) (k : Chg lo hi b c) : Chg lo hi a c :=
  ⟨k.os.trans h.os, k.tape.trans h.tape, k.output.trans h.output, Nat.le_trans h.size k.size, fun i hi' hl => (k.block i (Nat.lt_of_lt_of_le hi' h.size) hl).trans (h.block i hi' hl)⟩
theorem dis_new {w w2 : World} {lo lo2 : Nat} {A B : Option Addr} {n m : Nat} {xs ys : List Int} (h : Wr w lo A n xs) (k : Wr w2 lo2 B m ys) (hle : w.heap.size ≤ lo2) : Dis A n B m := by
  intro hn hm
  obtain ⟨b, off, rfl, h0, hb, _⟩ := h.2 hn
  obtain ⟨b', off', rfl, h0', hb', _⟩ := k.2 hm
  simp [ablk]
  omega

set_option maxHeartbeats 400000 in
theorem szCurve_ok (A0 : Option Addr) (n0 k0 : Nat) (A1 : Option Addr) (n1 k1 : Nat) (left : Int) (w : World) (h : (n0 : Int) + (n1 : Int) ≤ left) (h2 : left ≤ 1048576) :
    Calls Tryd.prog 4 #[.agg #[.slice A0 n0 k0, .slice A1 n1 k1], .int .i64 left] w fun e w' => e = .returned (.int .i64 (left - (n0 : Int) - (n1 : Int))) ∧ Below w.heap.size w w' := by
  go_enter Tryd.func4, Tryd.ntmps4
  go_wp2_with fail
  refine (szInt64S_ok _ _ _ _ _ (by omega) (by omega)).mono ?_
  rintro e0 W0 ⟨rfl, b0⟩
  have s0 := b0.size
  (try simp at s0)
  obtain ⟨c0, f0⟩ := bcell b0
  go_wp2_with fail
  refine (szInt64S_ok _ _ _ _ _ (by omega) (by omega)).mono ?_
  rintro e1 W1 ⟨rfl, b1⟩
  have s1 := b1.size
  (try simp at s1)
  obtain ⟨c1, f1⟩ := bcell b1
  go_wp2
  go_ret
  exact ⟨rfl, (by repeat (first | assumption | exact Below.refl _ _ | (refine Below.trans ?_ (b1.mono (by first | omega | (simp; done) | (simp; omega)))) | (refine Below.trans ?_ (b0.mono (by first | omega | (simp; done) | (simp; omega)))) | (refine Below.setCell ?_ (by first | omega | (simp; done) | (simp; omega)) _) | apply below_drewN | apply Below.drew | (refine Below.alloc ?_ (by first | omega | (simp; done) | (simp; omega)) _)))⟩

set_option maxHeartbeats 800000 in
theorem toCurve_xc (A0 : Option Addr) (n0 k0 : Nat) (xs0 : List Int) (A1 : Option Addr) (n1 k1 : Nat) (xs1 : List Int) (w : World) (hn0 : n0 ≤ 1048576) (ha0 : Rd w w.heap.size A0 n0 xs0) (hn1 : n1 ≤ 1048576) (ha1 : Rd w w.heap.size A1 n1 xs1) :
    Calls Tryd.prog 7 #[.agg #[.slice A0 n0 k0, .slice A1 n1 k1]] w fun e w' => ∃ B0 B1 d0 d1, e = .returned (.agg #[.slice B0 n0 d0, .slice B1 n1 d1]) ∧ Below w.heap.size w w' ∧ Wr w' w.heap.size B0 n0 xs0 ∧ Wr w' w.heap.size B1 n1 xs1 ∧ Dis B0 n0 B1 n1 ∧ n0 ≤ d0 ∧ n1 ≤ d1 := by
  go_enter Tryd.func7, Tryd.ntmps7
  go_wp2_with fail
  refine (toInt64S_xc _ _ _ xs0 _ hn0 ((ha0.below (by repeat (first | assumption | exact Below.refl _ _ | (refine Below.setCell ?_ (by first | omega | (simp; done) | (simp; omega)) _) | apply below_drewN | apply Below.drew | (refine Below.alloc ?_ (by first | omega | (simp; done) | (simp; omega)) _)))).mono (by first | omega | (simp; done) | (simp; omega)))).mono ?_
  rintro e1 W1 ⟨B0, d0, rfl, b1, x1, l1⟩
  have z1 : w.heap.size + 3 ≤ W1.heap.size := by have := b1.size; (try simp at this); omega
  obtain ⟨c1, f1⟩ := bcell b1
  have p1_0 : W1.cell? ⟨w.heap.size, 0, none⟩ = some (.slice A0 n0 k0) := (by rw [c1 _ _ (by first | omega | (simp; done) | (simp; omega))]; first | (simp; done) | go_simp); have p1_f0 : W1.frozen? ⟨w.heap.size, 0, none⟩ = false := (by rw [f1 _ _ (by first | omega | (simp; done) | (simp; omega))]; first | (simp; done) | go_simp); have p1_1 : W1.cell? ⟨w.heap.size, 1, none⟩ = some (.slice A1 n1 k1) := (by rw [c1 _ _ (by first | omega | (simp; done) | (simp; omega))]; first | (simp; done) | go_simp); have p1_f1 : W1.frozen? ⟨w.heap.size, 1, none⟩ = false := (by rw [f1 _ _ (by first | omega | (simp; done) | (simp; omega))]; first | (simp; done) | go_simp)
  have o1_0 : W1.cell? ⟨w.heap.size + 1 + 1, 0, none⟩ = some (.slice none 0 0) := (by rw [c1 _ _ (by first | omega | (simp; done) | (simp; omega))]; first | (simp; done) | go_simp); have o1_f0 : W1.frozen? ⟨w.heap.size + 1 + 1, 0, none⟩ = false := (by rw [f1 _ _ (by first | omega | (simp; done) | (simp; omega))]; first | (simp; done) | go_simp); have o1_1 : W1.cell? ⟨w.heap.size + 1 + 1, 1, none⟩ = some (.slice none 0 0) := (by rw [c1 _ _ (by first | omega | (simp; done) | (simp; omega))]; first | (simp; done) | go_simp); have o1_f1 : W1.frozen? ⟨w.heap.size + 1 + 1, 1, none⟩ = false := (by rw [f1 _ _ (by first | omega | (simp; done) | (simp; omega))]; first | (simp; done) | go_simp)
  have r1_0 : W1.cell? ⟨w.heap.size + 1, 0, none⟩ = some (.slice none 0 0) := (by rw [c1 _ _ (by first | omega | (simp; done) | (simp; omega))]; first | (simp; done) | go_simp); have r1_f0 : W1.frozen? ⟨w.heap.size + 1, 0, none⟩ = false := (by rw [f1 _ _ (by first | omega | (simp; done) | (simp; omega))]; first | (simp; done) | go_simp); have r1_1 : W1.cell? ⟨w.heap.size + 1, 1, none⟩ = some (.slice none 0 0) := (by rw [c1 _ _ (by first | omega | (simp; done) | (simp; omega))]; first | (simp; done) | go_simp); have r1_f1 : W1.frozen? ⟨w.heap.size + 1, 1, none⟩ = false := (by rw [f1 _ _ (by first | omega | (simp; done) | (simp; omega))]; first | (simp; done) | go_simp)
  clear c1 f1
  go_wp2_with fail
  refine (toInt64S_xc _ _ _ xs1 _ hn1 ((ha1.below (by repeat (first | assumption | exact Below.refl _ _ | (refine Below.trans ?_ (b1.mono (by first | omega | (simp; done) | (simp; omega)))) | (refine Below.setCell ?_ (by first | omega | (simp; done) | (simp; omega)) _) | apply below_drewN | apply Below.drew | (refine Below.alloc ?_ (by first | omega | (simp; done) | (simp; omega)) _)))).mono (by first | omega | (simp; done) | (simp; omega)))).mono ?_
  rintro e2 W2 ⟨B1, d1, rfl, b2, x2, l2⟩
  have z2 : w.heap.size + 3 ≤ W2.heap.size := by have := b2.size; (try simp at this); omega
  obtain ⟨c2, f2⟩ := bcell b2
  have p2_0 : W2.cell? ⟨w.heap.size, 0, none⟩ = some (.slice A0 n0 k0) := (by rw [c2 _ _ (by first | omega | (simp; done) | (simp; omega))]; first | (simp; done) | go_simp); have p2_f0 : W2.frozen? ⟨w.heap.size, 0, none⟩ = false := (by rw [f2 _ _ (by first | omega | (simp; done) | (simp; omega))]; first | (simp; done) | go_simp); have p2_1 : W2.cell? ⟨w.heap.size, 1, none⟩ = some (.slice A1 n1 k1) := (by rw [c2 _ _ (by first | omega | (simp; done) | (simp; omega))]; first | (simp; done) | go_simp); have p2_f1 : W2.frozen? ⟨w.heap.size, 1, none⟩ = false := (by rw [f2 _ _ (by first | omega | (simp; done) | (simp; omega))]; first | (simp; done) | go_simp)
  have o2_0 : W2.cell? ⟨w.heap.size + 1 + 1, 0, none⟩ = some (.slice B0 n0 d0) := (by rw [c2 _ _ (by first | omega | (simp; done) | (simp; omega))]; first | (simp; done) | go_simp); have o2_f0 : W2.frozen? ⟨w.heap.size + 1 + 1, 0, none⟩ = false := (by rw [f2 _ _ (by first | omega | (simp; done) | (simp; omega))]; first | (simp; done) | go_simp); have o2_1 : W2.cell? ⟨w.heap.size + 1 + 1, 1, none⟩ = some (.slice none 0 0) := (by rw [c2 _ _ (by first | omega | (simp; done) | (simp; omega))]; first | (simp; done) | go_simp); have o2_f1 : W2.frozen? ⟨w.heap.size + 1 + 1, 1, none⟩ = false := (by rw [f2 _ _ (by first | omega | (simp; done) | (simp; omega))]; first | (simp; done) | go_simp)
  have r2_0 : W2.cell? ⟨w.heap.size + 1, 0, none⟩ = some (.slice none 0 0) := (by rw [c2 _ _ (by first | omega | (simp; done) | (simp; omega))]; first | (simp; done) | go_simp); have r2_f0 : W2.frozen? ⟨w.heap.size + 1, 0, none⟩ = false := (by rw [f2 _ _ (by first | omega | (simp; done) | (simp; omega))]; first | (simp; done) | go_simp); have r2_1 : W2.cell? ⟨w.heap.size + 1, 1, none⟩ = some (.slice none 0 0) := (by rw [c2 _ _ (by first | omega | (simp; done) | (simp; omega))]; first | (simp; done) | go_simp); have r2_f1 : W2.frozen? ⟨w.heap.size + 1, 1, none⟩ = false := (by rw [f2 _ _ (by first | omega | (simp; done) | (simp; omega))]; first | (simp; done) | go_simp)
  clear c2 f2
  clear p1_0 p1_1 p1_f0 p1_f1 o1_0 o1_1 o1_f0 o1_f1 r1_0 r1_1 r1_f0 r1_f1
  (try go_wp2_with fail)
  exact bodyPost_ret (v := .agg #[.slice B0 n0 d0, .slice B1 n1 d1]) (by simp [results, Tryd.results7, go_sem, o2_0, o2_f0, r2_0, r2_f0, o2_1, o2_f1, r2_1, r2_f1, z2]) rfl ⟨_, _, _, _, rfl, (by repeat (first | assumption | exact Below.refl _ _ | (refine Below.trans ?_ (b2.mono (by first | omega | (simp; done) | (simp; omega)))) | (refine Below.trans ?_ (b1.mono (by first | omega | (simp; done) | (simp; omega)))) | (refine Below.setCell ?_ (by first | omega | (simp; done) | (simp; omega)) _) | apply below_drewN | apply Below.drew | (refine Below.alloc ?_ (by first | omega | (simp; done) | (simp; omega)) _))), ((x1.abv (by repeat (first | exact Abv.refl _ _ | (refine Abv.below ?_ b2) | (refine Abv.setCell ?_ (by first | omega | (simp; done) | (simp; omega)) _) | apply Abv.drewN | apply Abv.drew | (refine Abv.alloc ?_ _)))).lower (by first | omega | (simp; done) | (simp; omega))), ((x2.abv (by repeat (first | exact Abv.refl _ _ | (refine Abv.setCell ?_ (by first | omega | (simp; done) | (simp; omega)) _) | apply Abv.drewN | apply Abv.drew | (refine Abv.alloc ?_ _)))).lower (by first | omega | (simp; done) | (simp; omega))), dis_new x1 x2 (by first | omega | (simp; done) | (simp; omega)), l1, l2⟩

theorem toCurve_x (A0 : Option Addr) (n0 k0 : Nat) (xs0 : List Int) (A1 : Option Addr) (n1 k1 : Nat) (xs1 : List Int) (w : World) (hn0 : n0 ≤ 1048576) (ha0 : Rd w w.heap.size A0 n0 xs0) (hn1 : n1 ≤ 1048576) (ha1 : Rd w w.heap.size A1 n1 xs1) :
    Calls Tryd.prog 7 #[.agg #[.slice A0 n0 k0, .slice A1 n1 k1]] w fun e w' => ∃ B0 B1 d0 d1, e = .returned (.agg #[.slice B0 n0 d0, .slice B1 n1 d1]) ∧ Below w.heap.size w w' ∧ Wr w' w.heap.size B0 n0 xs0 ∧ Wr w' w.heap.size B1 n1 xs1 ∧ Dis B0 n0 B1 n1 :=
  (toCurve_xc A0 n0 k0 xs0 A1 n1 k1 xs1 w hn0 ha0 hn1 ha1).mono fun _ _ ⟨B0, B1, d0, d1, he, hb, h0, h1, z0_1, _, _⟩ => ⟨B0, B1, d0, d1, he, hb, h0, h1, z0_1⟩

set_option maxHeartbeats 800000 in
theorem eqCurve_x (A0 B0 : Option Addr) (n0 k0 d0 : Nat) (xs0 : List Int) (A1 B1 : Option Addr) (n1 k1 d1 : Nat) (xs1 : List Int) (w : World) (hn0 : n0 ≤ 1048576) (ha0 : Rd w w.heap.size A0 n0 xs0) (hb0 : Rd w w.heap.size B0 n0 xs0) (hn1 : n1 ≤ 1048576) (ha1 : Rd w w.heap.size A1 n1 xs1) (hb1 : Rd w w.heap.size B1 n1 xs1) :
    Calls Tryd.prog 11 #[.agg #[.slice A0 n0 k0, .slice A1 n1 k1], .agg #[.slice B0 n0 d0, .slice B1 n1 d1]] w fun e w' => e = .returned (.bool true) ∧ Below w.heap.size w w' := by
  go_enter Tryd.func11, Tryd.ntmps11
  go_wp2_with fail
  refine (eqInt64S_x _ _ _ _ _ xs0 _ hn0 ((ha0.below (by repeat (first | assumption | exact Below.refl _ _ | (refine Below.setCell ?_ (by first | omega | (simp; done) | (simp; omega)) _) | apply below_drewN | apply Below.drew | (refine Below.alloc ?_ (by first | omega | (simp; done) | (simp; omega)) _)))).mono (by first | omega | (simp; done) | (simp; omega))) ((hb0.below (by repeat (first | assumption | exact Below.refl _ _ | (refine Below.setCell ?_ (by first | omega | (simp; done) | (simp; omega)) _) | apply below_drewN | apply Below.drew | (refine Below.alloc ?_ (by first | omega | (simp; done) | (simp; omega)) _)))).mono (by first | omega | (simp; done) | (simp; omega)))).mono ?_
  rintro e1 W1 ⟨rfl, b1⟩
  have z1 : w.heap.size + 2 ≤ W1.heap.size := by have := b1.size; (try simp at this); omega
  obtain ⟨c1, f1⟩ := bcell b1
  have p1_0 : W1.cell? ⟨w.heap.size, 0, none⟩ = some (.slice A0 n0 k0) := (by rw [c1 _ _ (by first | omega | (simp; done) | (simp; omega))]; first | (simp; done) | go_simp); have p1_f0 : W1.frozen? ⟨w.heap.size, 0, none⟩ = false := (by rw [f1 _ _ (by first | omega | (simp; done) | (simp; omega))]; first | (simp; done) | go_simp); have p1_1 : W1.cell? ⟨w.heap.size, 1, none⟩ = some (.slice A1 n1 k1) := (by rw [c1 _ _ (by first | omega | (simp; done) | (simp; omega))]; first | (simp; done) | go_simp); have p1_f1 : W1.frozen? ⟨w.heap.size, 1, none⟩ = false := (by rw [f1 _ _ (by first | omega | (simp; done) | (simp; omega))]; first | (simp; done) | go_simp)
  have o1_0 : W1.cell? ⟨w.heap.size + 1, 0, none⟩ = some (.slice B0 n0 d0) := (by rw [c1 _ _ (by first | omega | (simp; done) | (simp; omega))]; first | (simp; done) | go_simp); have o1_f0 : W1.frozen? ⟨w.heap.size + 1, 0, none⟩ = false := (by rw [f1 _ _ (by first | omega | (simp; done) | (simp; omega))]; first | (simp; done) | go_simp); have o1_1 : W1.cell? ⟨w.heap.size + 1, 1, none⟩ = some (.slice B1 n1 d1) := (by rw [c1 _ _ (by first | omega | (simp; done) | (simp; omega))]; first | (simp; done) | go_simp); have o1_f1 : W1.frozen? ⟨w.heap.size + 1, 1, none⟩ = false := (by rw [f1 _ _ (by first | omega | (simp; done) | (simp; omega))]; first | (simp; done) | go_simp)
  clear c1 f1
  go_wp2_with fail
  refine (eqInt64S_x _ _ _ _ _ xs1 _ hn1 ((ha1.below (by repeat (first | assumption | exact Below.refl _ _ | (refine Below.trans ?_ (b1.mono (by first | omega | (simp; done) | (simp; omega)))) | (refine Below.setCell ?_ (by first | omega | (simp; done) | (simp; omega)) _) | apply below_drewN | apply Below.drew | (refine Below.alloc ?_ (by first | omega | (simp; done) | (simp; omega)) _)))).mono (by first | omega | (simp; done) | (simp; omega))) ((hb1.below (by repeat (first | assumption | exact Below.refl _ _ | (refine Below.trans ?_ (b1.mono (by first | omega | (simp; done) | (simp; omega)))) | (refine Below.setCell ?_ (by first | omega | (simp; done) | (simp; omega)) _) | apply below_drewN | apply Below.drew | (refine Below.alloc ?_ (by first | omega | (simp; done) | (simp; omega)) _)))).mono (by first | omega | (simp; done) | (simp; omega)))).mono ?_
  rintro e2 W2 ⟨rfl, b2⟩
  have z2 : w.heap.size + 2 ≤ W2.heap.size := by have := b2.size; (try simp at this); omega
  obtain ⟨c2, f2⟩ := bcell b2
  go_wp2
  go_ret
  exact ⟨rfl, (by repeat (first | assumption | exact Below.refl _ _ | (refine Below.trans ?_ (b2.mono (by first | omega | (simp; done) | (simp; omega)))) | (refine Below.trans ?_ (b1.mono (by first | omega | (simp; done) | (simp; omega)))) | (refine Below.setCell ?_ (by first | omega | (simp; done) | (simp; omega)) _) | apply below_drewN | apply Below.drew | (refine Below.alloc ?_ (by first | omega | (simp; done) | (simp; omega)) _)))⟩

set_option maxHeartbeats 800000 in
theorem markCurve_x (lo hi : Nat) (A0 : Option Addr) (n0 k0 : Nat) (xs0 : List Int) (A1 : Option Addr) (n1 k1 : Nat) (xs1 : List Int) (m0 : Int) (w : World) (dis0_1 : Dis A0 n0 A1 n1) (h1 : 0 ≤ m0) (h2 : m0 ≤ 140737480000000) (hh : hi ≤ w.heap.size) (hn0 : n0 ≤ 1048576) (ha0 : Wr w lo A0 n0 xs0) (hL0 : Lt hi A0 n0) (hn1 : n1 ≤ 1048576) (ha1 : Wr w lo A1 n1 xs1) (hL1 : Lt hi A1 n1) :
    Calls Tryd.prog 13 #[.agg #[.slice A0 n0 k0, .slice A1 n1 k1], .int .i64 m0] w fun e w' => e = .returned (.int .i64 (m0 + (n0 : Int) + (n1 : Int))) ∧ Chg lo hi w w' ∧ Wr w' lo A0 n0 (marks (m0) n0) ∧ Wr w' lo A1 n1 (marks (m0 + (n0 : Int)) n1) := by
  go_enter Tryd.func13, Tryd.ntmps13
  go_wp2_with fail
  refine (markInts_w _ lo _ _ xs0 _ _ (by omega) (by omega) (by omega) (ha0.below (by repeat (first | assumption | exact Below.refl _ _ | (refine Below.setCell ?_ (by first | omega | (simp; done) | (simp; omega)) _) | apply below_drewN | apply Below.drew | (refine Below.alloc ?_ (by first | omega | (simp; done) | (simp; omega)) _))))).mono ?_
  rintro e1 W1 ⟨rfl, b1, g1, x1⟩
  have z1 : w.heap.size + 1 ≤ W1.heap.size := by have := b1.size; (try simp at this); omega
  have g1_1 := (ha1.below (by repeat (first | assumption | exact Below.refl _ _ | (refine Below.setCell ?_ (by first | omega | (simp; done) | (simp; omega)) _) | apply below_drewN | apply Below.drew | (refine Below.alloc ?_ (by first | omega | (simp; done) | (simp; omega)) _)))).grown g1 (apart_of_ne (fun ha hb => (dis0_1 hb ha).symm) (ha1.blk))
  have u1 := Chg.of_row g1 (ha0.below (by repeat (first | assumption | exact Below.refl _ _ | (refine Below.setCell ?_ (by first | omega | (simp; done) | (simp; omega)) _) | apply below_drewN | apply Below.drew | (refine Below.alloc ?_ (by first | omega | (simp; done) | (simp; omega)) _)))) hL0
  have p1_0 : W1.cell? ⟨w.heap.size, 0, none⟩ = some (.slice A0 n0 k0) := by rw [u1.cell (by first | omega | (simp; done) | (simp; omega)) (by first | omega | (simp; done) | (simp; omega))]; simp
  have p1_1 : W1.cell? ⟨w.heap.size, 1, none⟩ = some (.slice A1 n1 k1) := by rw [u1.cell (by first | omega | (simp; done) | (simp; omega)) (by first | omega | (simp; done) | (simp; omega))]; simp
  go_wp2_with fail
  refine (markInts_w _ lo _ _ xs1 _ _ (by omega) (by omega) (by omega) g1_1).mono ?_
  rintro e2 W2 ⟨rfl, b2, g2, x2⟩
  have z2 : w.heap.size + 1 ≤ W2.heap.size := by have := b2.size; (try simp at this); omega
  have y2_0 := x1.grown g2 (apart_of_ne dis0_1 (ha0.blk))
  have u2 := Chg.of_row g2 g1_1 hL1
  go_wp2
  go_ret
  exact ⟨rfl, (Chg.trans' (show Below w.heap.size w _ from (by repeat (first | assumption | exact Below.refl _ _ | (refine Below.setCell ?_ (by first | omega | (simp; done) | (simp; omega)) _) | apply below_drewN | apply Below.drew | (refine Below.alloc ?_ (by first | omega | (simp; done) | (simp; omega)) _)))) u1).then u2, y2_0, x2⟩
end Go.Proofs.YtfpfmfhhcgafcabDoor
