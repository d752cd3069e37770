/- Records of type Water, 5 cells each: what a row of them holds; copy, equal, mark, held. -/
import Derived.Test.YtfpfmfhhcgafcabDoorRec
import Derived.Deep.RegionHeld3
import Derived.Laws.StructEq
namespace Go.Proofs.YtfpfmfhhcgafcabDoor
open Go.RowKit

structure RWater where
  f0 : Int
  f1 : Int
  f2 : Int
  f3 : Int
  f4 : Int
def zWater : RWater := ⟨0, 0, 0, 0, 0⟩
theorem RWater.eq {a b : RWater} (h : a.f0 = b.f0 ∧ a.f1 = b.f1 ∧ a.f2 = b.f2 ∧ a.f3 = b.f3 ∧ a.f4 = b.f4) : a = b := by
  cases a; cases b; simpa using h
instance : DecidableEq RWater := fun a b => decidable_of_iff (a.f0 = b.f0 ∧ a.f1 = b.f1 ∧ a.f2 = b.f2 ∧ a.f3 = b.f3 ∧ a.f4 = b.f4) ⟨RWater.eq, fun h => by subst h; simp⟩
def encWater (x : RWater) : List Value := [.int .i64 x.f0, .int .i64 x.f1, .int .i64 x.f2, .int .i64 x.f3, .int .i64 x.f4]
theorem encWater_len (x : RWater) : (encWater x).length = 5 := rfl
def csWater (xs : List RWater) : List Value := xs.flatMap encWater
theorem csWater_len (xs : List RWater) : (csWater xs).length = xs.length * 5 := flat_len encWater_len xs
theorem csWater_app (xs ys : List RWater) : csWater (xs ++ ys) = csWater xs ++ csWater ys := List.flatMap_append
def okWater (x : RWater) : Prop := (Lit.int .i64 x.f0).wf = true ∧ (Lit.int .i64 x.f1).wf = true ∧ (Lit.int .i64 x.f2).wf = true ∧ (Lit.int .i64 x.f3).wf = true ∧ (Lit.int .i64 x.f4).wf = true
def Wf_Water (xs : List RWater) : Prop := ∀ x ∈ xs, okWater x
def Rd_Water (w : World) (B : Nat) (A : Option Addr) (n : Nat) (xs : List RWater) : Prop := RdC w B A n 5 (csWater xs)
def Wr_Water (w : World) (lo : Nat) (A : Option Addr) (n : Nat) (xs : List RWater) : Prop := WrC w lo A n 5 (csWater xs)
/-- one record -/
def AtWater (w : World) (b o : Nat) (x : RWater) : Prop := w.cell? ⟨b, o, none⟩ = some (.int .i64 x.f0) ∧ w.cell? ⟨b, o + 1, none⟩ = some (.int .i64 x.f1) ∧ w.cell? ⟨b, o + 2, none⟩ = some (.int .i64 x.f2) ∧ w.cell? ⟨b, o + 3, none⟩ = some (.int .i64 x.f3) ∧ w.cell? ⟨b, o + 4, none⟩ = some (.int .i64 x.f4)
def FzWater (w : World) (b o : Nat) : Prop := w.frozen? ⟨b, o, none⟩ = false ∧ w.frozen? ⟨b, o + 1, none⟩ = false ∧ w.frozen? ⟨b, o + 2, none⟩ = false ∧ w.frozen? ⟨b, o + 3, none⟩ = false ∧ w.frozen? ⟨b, o + 4, none⟩ = false
section
variable {w w' : World} {B B' lo lo' hi n : Nat} {A : Option Addr} {xs : List RWater}
theorem Rd_Water.len (h : Rd_Water w B A n xs) : xs.length = n := by have := h.1; rw [csWater_len] at this; omega
theorem Wr_Water.len (h : Wr_Water w lo A n xs) : xs.length = n := by have := h.1; rw [csWater_len] at this; omega
theorem Rd_Water.below (h : Rd_Water w B A n xs) (hb : Below B w w') : Rd_Water w' B A n xs := RdC.below h hb
theorem Rd_Water.mono (h : Rd_Water w B A n xs) (hB' : B ≤ B') : Rd_Water w B' A n xs := RdC.mono h hB'
theorem Wr_Water.rd (h : Wr_Water w lo A n xs) : Rd_Water w w.heap.size A n xs := WrC.rd h
theorem Wr_Water.below (h : Wr_Water w lo A n xs) (hb : Below w.heap.size w w') : Wr_Water w' lo A n xs := WrC.below h hb
theorem Wr_Water.abv (h : Wr_Water w lo A n xs) (hb : Abv lo w w') : Wr_Water w' lo A n xs := WrC.abv h hb
theorem Wr_Water.lower (h : Wr_Water w lo A n xs) (hl : lo' ≤ lo) : Wr_Water w lo' A n xs := WrC.lower h hl
theorem Wr_Water.lt (h : Wr_Water w lo A n xs) : Lt w.heap.size A n := WrC.lt h
theorem Wr_Water.chg {hi1 lo1 : Nat} (h : Wr_Water w lo1 A n xs) (hL : Lt hi1 A n) (c : Chg lo hi w w') (hd : hi1 ≤ lo ∨ hi ≤ lo1) : Wr_Water w' lo1 A n xs := WrC.chg h hL c hd
theorem getDWater {k : Nat} (h : k < xs.length) : xs.getD k zWater = xs[k] := by simp [List.getD_eq_getElem?_getD, h]
theorem Rd_Water.at (h : Rd_Water w B A n xs) (hn : 0 < n) : ∃ b off, A = some ⟨b, off, none⟩ ∧ b < B ∧ ∀ k, k < n → AtWater w b (off + k * 5) (xs.getD k zWater) := by
  obtain ⟨b, off, e, hB, hc⟩ := h.2 hn
  have hl := h.len
  refine ⟨b, off, e, hB, fun k hk => ?_⟩
  rw [getDWater (by omega)]
  have g0 := hc (k * 5 + 0) (by rw [csWater_len]; omega)
  rw [csWater, flat_at encWater_len xs k 0 (by omega) (by omega), ← Nat.add_assoc] at g0
  have g1 := hc (k * 5 + 1) (by rw [csWater_len]; omega)
  rw [csWater, flat_at encWater_len xs k 1 (by omega) (by omega), ← Nat.add_assoc] at g1
  have g2 := hc (k * 5 + 2) (by rw [csWater_len]; omega)
  rw [csWater, flat_at encWater_len xs k 2 (by omega) (by omega), ← Nat.add_assoc] at g2
  have g3 := hc (k * 5 + 3) (by rw [csWater_len]; omega)
  rw [csWater, flat_at encWater_len xs k 3 (by omega) (by omega), ← Nat.add_assoc] at g3
  have g4 := hc (k * 5 + 4) (by rw [csWater_len]; omega)
  rw [csWater, flat_at encWater_len xs k 4 (by omega) (by omega), ← Nat.add_assoc] at g4
  exact ⟨g0, g1, g2, g3, g4⟩
theorem Wr_Water.at (h : Wr_Water w lo A n xs) (hn : 0 < n) : ∃ b off, A = some ⟨b, off, none⟩ ∧ lo ≤ b ∧ b < w.heap.size ∧ ∀ k, k < n → AtWater w b (off + k * 5) (xs.getD k zWater) ∧ FzWater w b (off + k * 5) := by
  obtain ⟨b, off, e, h0, hB, hc⟩ := h.2 hn
  have hl := h.len
  refine ⟨b, off, e, h0, hB, fun k hk => ?_⟩
  rw [getDWater (by omega)]
  have g0 := hc (k * 5 + 0) (by rw [csWater_len]; omega)
  rw [csWater, flat_at encWater_len xs k 0 (by omega) (by omega), ← Nat.add_assoc] at g0
  have g1 := hc (k * 5 + 1) (by rw [csWater_len]; omega)
  rw [csWater, flat_at encWater_len xs k 1 (by omega) (by omega), ← Nat.add_assoc] at g1
  have g2 := hc (k * 5 + 2) (by rw [csWater_len]; omega)
  rw [csWater, flat_at encWater_len xs k 2 (by omega) (by omega), ← Nat.add_assoc] at g2
  have g3 := hc (k * 5 + 3) (by rw [csWater_len]; omega)
  rw [csWater, flat_at encWater_len xs k 3 (by omega) (by omega), ← Nat.add_assoc] at g3
  have g4 := hc (k * 5 + 4) (by rw [csWater_len]; omega)
  rw [csWater, flat_at encWater_len xs k 4 (by omega) (by omega), ← Nat.add_assoc] at g4
  exact ⟨⟨g0.1, g1.1, g2.1, g3.1, g4.1⟩, g0.2, g1.2, g2.2, g3.2, g4.2⟩
theorem IsCells.rd_Water {len cap : Nat} (h : IsCells [gInt, gInt, gInt, gInt, gInt] w A len cap) : ∃ xs, Rd_Water w w.heap.size A len xs ∧ Wf_Water xs := by
  obtain ⟨xs, h1, _, h2⟩ := h.recs (enc := encWater) okWater (by simp) encWater_len (by
    intro vs hl hg
    match vs, hl with
    | [v0, v1, v2, v3, v4], _ =>
      obtain ⟨q0, e0, p0⟩ := hg 0 (by simp) _ rfl
      simp only [List.getElem_cons_zero, List.getElem_cons_succ] at e0
      subst e0
      obtain ⟨q1, e1, p1⟩ := hg 1 (by simp) _ rfl
      simp only [List.getElem_cons_zero, List.getElem_cons_succ] at e1
      subst e1
      obtain ⟨q2, e2, p2⟩ := hg 2 (by simp) _ rfl
      simp only [List.getElem_cons_zero, List.getElem_cons_succ] at e2
      subst e2
      obtain ⟨q3, e3, p3⟩ := hg 3 (by simp) _ rfl
      simp only [List.getElem_cons_zero, List.getElem_cons_succ] at e3
      subst e3
      obtain ⟨q4, e4, p4⟩ := hg 4 (by simp) _ rfl
      simp only [List.getElem_cons_zero, List.getElem_cons_succ] at e4
      subst e4
      exact ⟨⟨q0, q1, q2, q3, q4⟩, rfl, p0, p1, p2, p3, p4⟩)
  exact ⟨xs, h1, h2⟩
end

set_option maxHeartbeats 400000 in
theorem toWater_x (x0 : Int) (x1 : Int) (x2 : Int) (x3 : Int) (x4 : Int) (w : World) :
    Calls Tryd.prog 24 #[.agg #[.int .i64 x0, .int .i64 x1, .int .i64 x2, .int .i64 x3, .int .i64 x4]] w fun e w' => e = .returned (.agg #[.int .i64 x0, .int .i64 x1, .int .i64 x2, .int .i64 x3, .int .i64 x4]) ∧ Below w.heap.size w w' := by
  go_enter Tryd.func24, Tryd.ntmps24
  go_wp2
  exact bodyPost_ret (v := .agg #[.int .i64 x0, .int .i64 x1, .int .i64 x2, .int .i64 x3, .int .i64 x4]) (by simp [results, Tryd.results24, go_sem]) rfl ⟨rfl, (by repeat (first | assumption | exact Below.refl _ _ | (refine Below.setCell ?_ (by first | omega | (simp; done) | (simp; omega)) _) | apply below_drewN | apply Below.drew | (refine Below.alloc ?_ (by first | omega | (simp; done) | (simp; omega)) _)))⟩

set_option maxHeartbeats 400000 in
theorem eqWater_x (x0 : Int) (x1 : Int) (x2 : Int) (x3 : Int) (x4 : Int) (w : World) :
    Calls Tryd.prog 32 #[.agg #[.int .i64 x0, .int .i64 x1, .int .i64 x2, .int .i64 x3, .int .i64 x4], .agg #[.int .i64 x0, .int .i64 x1, .int .i64 x2, .int .i64 x3, .int .i64 x4]] w fun e w' => e = .returned (.bool true) ∧ Below w.heap.size w w' := by
  have e0 : (x0 != x0) = false := by simp
  have e1 : (x1 != x1) = false := by simp
  have e2 : (x2 != x2) = false := by simp
  have e3 : (x3 != x3) = false := by simp
  have e4 : (x4 != x4) = false := by simp
  go_enter Tryd.func32, Tryd.ntmps32
  go_wp2
  go_ret
  exact ⟨rfl, (by repeat (first | assumption | exact Below.refl _ _ | (refine Below.setCell ?_ (by first | omega | (simp; done) | (simp; omega)) _) | apply below_drewN | apply Below.drew | (refine Below.alloc ?_ (by first | omega | (simp; done) | (simp; omega)) _)))⟩

set_option maxHeartbeats 400000 in
theorem eqWaterS_x (A B : Option Addr) (n c d : Nat) (xs : List RWater) (w : World) (hn : n ≤ 1048576) (ha : Rd_Water w w.heap.size A n xs) (hb : Rd_Water w w.heap.size B n xs) :
    Calls Tryd.prog 12 #[.slice A n c, .slice B n d] w fun e w' => e = .returned (.bool true) ∧ Below w.heap.size w w' := by
  have h0 : ((n : Int) != (n : Int)) = false := by simp
  have HA := Lib.hid ha
  have HB := Lib.hid hb
  clear ha hb
  go_enter Tryd.func12, Tryd.ntmps12
  go_wp2
  go_loopw [5] (fun i wr => ∃ k : Nat, k ≤ n ∧ i = .int .i64 (k : Int) ∧ Below w.heap.size w wr) (fun i _ => n - (intOf i).toNat)
  case atStart => exact ⟨0, by omega, rfl, Below.refl _ _⟩
  case round =>
    obtain ⟨k, hk, rfl, hb⟩ := hrel
    by_cases hlt : k < n
    · obtain ⟨b, o, rfl, hB, hc⟩ := (HA.out.below hb).at (by omega)
      obtain ⟨b', o', rfl, hB', hc'⟩ := (HB.out.below hb).at (by omega)
      have p := hc k hlt
      have p' := hc' k hlt
      clear hc hc'
      generalize xs.getD k zWater = x at p p'
      obtain ⟨y0, y1, y2, y3, y4⟩ := x
      obtain ⟨p0, p1, p2, p3, p4⟩ := p
      obtain ⟨p0', p1', p2', p3', p4'⟩ := p'
      simp only at p0 p0' p1 p1' p2 p2' p3 p3' p4 p4'
      have hsz := hb.size
      have hb1 : b < wr.heap.size := by omega
      have hb2 : b' < wr.heap.size := by omega
      go_wp2_with fail
      go_region_held3 (fun w' => w'.cell? ⟨b, o + k * 5, none⟩ = some (.int .i64 y0) ∧ w'.cell? ⟨b', o' + k * 5, none⟩ = some (.int .i64 y0) ∧ w'.cell? ⟨b, o + k * 5 + 1, none⟩ = some (.int .i64 y1) ∧ w'.cell? ⟨b', o' + k * 5 + 1, none⟩ = some (.int .i64 y1) ∧ w'.cell? ⟨b, o + k * 5 + 2, none⟩ = some (.int .i64 y2) ∧ w'.cell? ⟨b', o' + k * 5 + 2, none⟩ = some (.int .i64 y2) ∧ w'.cell? ⟨b, o + k * 5 + 3, none⟩ = some (.int .i64 y3) ∧ w'.cell? ⟨b', o' + k * 5 + 3, none⟩ = some (.int .i64 y3) ∧ w'.cell? ⟨b, o + k * 5 + 4, none⟩ = some (.int .i64 y4) ∧ w'.cell? ⟨b', o' + k * 5 + 4, none⟩ = some (.int .i64 y4)) (go_keep) (first | (go_at_call 32; refine (eqWater_x _ _ _ _ _ _).mono ?_; rintro e1 W1 ⟨rfl, b1⟩; have d1 : Below w.heap.size w W1 := (by repeat (first | assumption | exact Below.refl _ _ | (refine Below.trans ?_ (b1.mono (by first | omega | (simp; done) | (simp; omega)))) | (refine Below.setCell ?_ (by first | omega | (simp; done) | (simp; omega)) _) | apply below_drewN | apply Below.drew | (refine Below.alloc ?_ (by first | omega | (simp; done) | (simp; omega)) _))); have z0 : W1.cell? ⟨b, o + k * 5, none⟩ = _ := (b1.cell (p := ⟨b, o + k * 5, none⟩) hb1).trans p0; have z0' : W1.cell? ⟨b', o' + k * 5, none⟩ = _ := (b1.cell (p := ⟨b', o' + k * 5, none⟩) hb2).trans p0'; have z1 : W1.cell? ⟨b, o + k * 5 + 1, none⟩ = _ := (b1.cell (p := ⟨b, o + k * 5 + 1, none⟩) hb1).trans p1; have z1' : W1.cell? ⟨b', o' + k * 5 + 1, none⟩ = _ := (b1.cell (p := ⟨b', o' + k * 5 + 1, none⟩) hb2).trans p1'; have z2 : W1.cell? ⟨b, o + k * 5 + 2, none⟩ = _ := (b1.cell (p := ⟨b, o + k * 5 + 2, none⟩) hb1).trans p2; have z2' : W1.cell? ⟨b', o' + k * 5 + 2, none⟩ = _ := (b1.cell (p := ⟨b', o' + k * 5 + 2, none⟩) hb2).trans p2'; have z3 : W1.cell? ⟨b, o + k * 5 + 3, none⟩ = _ := (b1.cell (p := ⟨b, o + k * 5 + 3, none⟩) hb1).trans p3; have z3' : W1.cell? ⟨b', o' + k * 5 + 3, none⟩ = _ := (b1.cell (p := ⟨b', o' + k * 5 + 3, none⟩) hb2).trans p3'; have z4 : W1.cell? ⟨b, o + k * 5 + 4, none⟩ = _ := (b1.cell (p := ⟨b, o + k * 5 + 4, none⟩) hb1).trans p4; have z4' : W1.cell? ⟨b', o' + k * 5 + 4, none⟩ = _ := (b1.cell (p := ⟨b', o' + k * 5 + 4, none⟩) hb2).trans p4'))
      go_wp2
      go_roundw
      case rel => exact ⟨k + 1, by omega, by go_num, d1⟩
      case measure => simp [intOf]; omega
    · go_wp2
      go_ret
      exact ⟨rfl, hb⟩

theorem info_Water : (Tryd.prog.info? 47).map (fun i => (i.zero, i.size, i.bytes)) = some (some (.agg #[.int .i64 0, .int .i64 0, .int .i64 0, .int .i64 0, .int .i64 0]), 5, 40) := by kernel_rfl

set_option maxHeartbeats 800000 in
theorem toWaterS_xc (A : Option Addr) (n c : Nat) (xs : List RWater) (w : World) (hn : n ≤ 1048576) (ha : Rd_Water w w.heap.size A n xs) :
    Calls Tryd.prog 8 #[.slice A n c] w fun e w' => ∃ B d, e = .returned (.slice B n d) ∧ Below w.heap.size w w' ∧ Wr_Water w' w.heap.size B n xs ∧ n ≤ d := by
  obtain ⟨i0, hi, hz0, hz1, hz2⟩ := info_parts info_Water
  have hmk := fun W => run_make_rowN (P := Tryd.prog) 32 47 i0 (.agg #[.int .i64 0, .int .i64 0, .int .i64 0, .int .i64 0, .int .i64 0]) Tryd.underlying32 hi hz0 .i64 .i64 n n (Nat.le_refl _) (by rw [hz2]; omega) (by omega) W
  rw [hz1] at hmk
  clear hi hz0 hz1 hz2
  have HA := Lib.hid ha
  clear ha
  go_enter Tryd.func8, Tryd.ntmps8
  go_wp2
  go_loopw [4] (fun i wr => ∃ k : Nat, k ≤ n ∧ i = .int .i64 (k : Int) ∧ Below w.heap.size w wr ∧ w.heap.size < wr.heap.size ∧ HalfR encWater 5 n w.heap.size 0 (fun j => xs.getD j zWater) (fun _ => zWater) k wr) (fun i _ => n - (intOf i).toNat)
  case atStart => exact ⟨0, by omega, rfl, (Below.refl _ _).alloc (Nat.le_refl _) _, by simp, HalfR.new encWater_len _ _ _ _ _ _ rfl _ rfl (by omega)⟩
  case round =>
    obtain ⟨k, hk, rfl, hb, hs, hr⟩ := hrel
    by_cases hlt : k < n
    · obtain ⟨b, o, rfl, hbB, hc⟩ := (HA.out.below hb).at (by omega)
      have HR := Lib.hid hr
      clear hr
      have hx := hc k hlt
      clear hc
      obtain ⟨x, ex⟩ : ∃ x, x = xs.getD k zWater := ⟨_, rfl⟩
      rw [← ex] at hx
      have EX := Lib.hid ex
      clear ex
      obtain ⟨y0, y1, y2, y3, y4⟩ := x
      obtain ⟨p0, p1, p2, p3, p4⟩ := hx
      simp only at p0 p1 p2 p3 p4
      go_wp2_with (go_at_call 24; refine (toWater_x _ _ _ _ _ _).mono ?_; rintro e1 W1 ⟨rfl, b1⟩; have s1 : wr.heap.size ≤ W1.heap.size := b1.size; have HR1 : HalfR encWater 5 n w.heap.size 0 (fun j => xs.getD j zWater) (fun _ => zWater) k W1 := (fun j hj i hi => ⟨(b1.cell (p := ⟨w.heap.size, _, none⟩) hs).trans (HR.out j hj i hi).1, (b1.frozen (p := ⟨w.heap.size, _, none⟩) hs).trans (HR.out j hj i hi).2⟩); obtain ⟨m0, n0⟩ := HR1 k hlt 0 (by omega); rw [if_neg (Nat.lt_irrefl k)] at m0; simp only [encWater, Nat.zero_add, Nat.add_zero] at m0 n0; obtain ⟨m1, n1⟩ := HR1 k hlt 1 (by omega); rw [if_neg (Nat.lt_irrefl k)] at m1; simp only [encWater, Nat.zero_add, Nat.add_zero] at m1 n1; obtain ⟨m2, n2⟩ := HR1 k hlt 2 (by omega); rw [if_neg (Nat.lt_irrefl k)] at m2; simp only [encWater, Nat.zero_add, Nat.add_zero] at m2 n2; obtain ⟨m3, n3⟩ := HR1 k hlt 3 (by omega); rw [if_neg (Nat.lt_irrefl k)] at m3; simp only [encWater, Nat.zero_add, Nat.add_zero] at m3 n3; obtain ⟨m4, n4⟩ := HR1 k hlt 4 (by omega); rw [if_neg (Nat.lt_irrefl k)] at m4; simp only [encWater, Nat.zero_add, Nat.add_zero] at m4 n4; have HQ := Lib.hid HR1; clear HR1)
      go_roundw
      case rel => exact ⟨k + 1, by omega, by go_num, (by repeat (first | assumption | exact Below.refl _ _ | (refine Below.trans ?_ (b1.mono (by first | omega | (simp; done) | (simp; omega)))) | (refine Below.setCell ?_ (by first | omega | (simp; done) | (simp; omega)) _) | apply below_drewN | apply Below.drew | (refine Below.alloc ?_ (by first | omega | (simp; done) | (simp; omega)) _))), by simp; omega, by have := HQ.out.step encWater_len hlt _ (show encWater ⟨y0, y1, y2, y3, y4⟩ = encWater (xs.getD k zWater) by rw [EX.out]); simp only [Nat.zero_add] at this; exact this⟩
      case measure => simp [intOf]; omega
    · go_wp2
      go_ret
      obtain rfl : k = n := by omega
      exact ⟨_, _, rfl, hb, hr.done encWater_len HA.out.len (fun j hj => (getDWater hj).symm) (Nat.le_refl _) hs, Nat.le_refl _⟩

theorem toWaterS_x (A : Option Addr) (n c : Nat) (xs : List RWater) (w : World) (hn : n ≤ 1048576) (ha : Rd_Water w w.heap.size A n xs) :
    Calls Tryd.prog 8 #[.slice A n c] w fun e w' => ∃ B d, e = .returned (.slice B n d) ∧ Below w.heap.size w w' ∧ Wr_Water w' w.heap.size B n xs :=
  (toWaterS_xc A n c xs w hn ha).mono fun _ _ ⟨B, d, he, hb, hw, _⟩ => ⟨B, d, he, hb, hw⟩

set_option maxHeartbeats 400000 in
theorem szWaterS_ok (A : Option Addr) (n k : Nat) (left : Int) (w : World) (h : (n : Int) ≤ left) (h2 : left ≤ 1048576) :
    Calls Tryd.prog 5 #[.slice A n k, .int .i64 left] w fun e w' => e = .returned (.int .i64 (left - (n : Int))) ∧ Below w.heap.size w w' := by
  go_enter Tryd.func5, Tryd.ntmps5
  go_wp2
  go_ret
  exact ⟨rfl, (by repeat (first | assumption | exact Below.refl _ _ | (refine Below.setCell ?_ (by first | omega | (simp; done) | (simp; omega)) _) | apply below_drewN | apply Below.drew | (refine Below.alloc ?_ (by first | omega | (simp; done) | (simp; omega)) _)))⟩

set_option maxHeartbeats 400000 in
theorem szWaterS_no (A : Option Addr) (n k : Nat) (left : Int) (w : World) (hn : n ≤ maxLen) (h : left < (n : Int)) (h2 : 0 ≤ left) :
    Calls Tryd.prog 5 #[.slice A n k, .int .i64 left] w fun e w' => e = .returned (.int .i64 (-1)) ∧ Below w.heap.size w w' := by
  unfold maxLen at hn
  go_enter Tryd.func5, Tryd.ntmps5
  go_wp2
  go_ret
  exact ⟨rfl, (by repeat (first | assumption | exact Below.refl _ _ | (refine Below.setCell ?_ (by first | omega | (simp; done) | (simp; omega)) _) | apply below_drewN | apply Below.drew | (refine Below.alloc ?_ (by first | omega | (simp; done) | (simp; omega)) _)))⟩

/-- what the marks of a row are -/
def mkWater (k : Int) (j : Nat) : RWater := ⟨k + 5 * (j : Int), k + 5 * (j : Int) + 1, k + 5 * (j : Int) + 2, k + 5 * (j : Int) + 3, k + 5 * (j : Int) + 4⟩
def marks_Water (k : Int) (n : Nat) : List RWater := (List.range n).map (mkWater k)
theorem marks_Water_len (k : Int) (n : Nat) : (marks_Water k n).length = n := by simp [marks_Water]
theorem marks_Water_at (k : Int) (n j : Nat) (h : j < n) : (marks_Water k n).getD j zWater = mkWater k j := by
  simp [marks_Water, List.getD_eq_getElem?_getD, h]

set_option maxHeartbeats 800000 in
theorem markWaterS_x (lo hi : Nat) (A : Option Addr) (n c : Nat) (xs : List RWater) (k0 : Int) (w : World) (h1 : 0 ≤ k0) (h2 : k0 ≤ 140737488355328) (_hh : hi ≤ w.heap.size) (hn : n ≤ 1048576) (ha : Wr_Water w lo A n xs) (hL : Lt hi A n) :
    Calls Tryd.prog 14 #[.slice A n c, .int .i64 k0] w fun e w' => e = .returned (.int .i64 (k0 + 5 * (n : Int))) ∧ Chg lo hi w w' ∧ Wr_Water w' lo A n (marks_Water k0 n) := by
  by_cases hz : n = 0
  · subst hz
    go_enter Tryd.func14, Tryd.ntmps14
    go_wp2
    go_loop [1, 5] (fun q i => i = .int .i64 0 ∧ q = .int .i64 k0) (fun _ _ => 0)
    case atStart => exact ⟨rfl, rfl⟩
    case round =>
      obtain ⟨rfl, rfl⟩ := hrel
      go_wp2
      go_ret
      exact ⟨ret_int (by simp), Chg.refl _ _ _, ⟨rfl, fun h => absurd h (by omega)⟩⟩
  · obtain ⟨b, o, rfl, h0, hbB, hc⟩ := ha.2 (by omega)
    have hlen := ha.len
    have HL := Lib.hid hlen
    have HC : Hid (HalfR encWater 5 n b o (mkWater k0) (fun j => xs.getD j zWater) 0 w) := by
      intro j hj i hi
      show _ = (encWater (if j < 0 then mkWater k0 j else xs.getD j zWater))[i]? ∧ _
      rw [if_neg (Nat.not_lt_zero j), getDWater (by omega), ← flat_at encWater_len xs j i (by omega) hi]
      have := hc (j * 5 + i) (by rw [csWater_len]; omega)
      rw [← Nat.add_assoc] at this
      exact this
    have hbh : b < hi := hL (by omega) b rfl
    clear hc ha hL hlen
    go_enter Tryd.func14, Tryd.ntmps14
    go_wp2
    go_loopw [1, 5] (fun q i wr => ∃ k : Nat, k ≤ n ∧ i = .int .i64 (k : Int) ∧ q = .int .i64 (k0 + 5 * (k : Int)) ∧ w.grownBy wr (some b) ∧ HalfR encWater 5 n b o (mkWater k0) (fun j => xs.getD j zWater) k wr) (fun _ i _ => n - (intOf i).toNat)
    case atStart => exact ⟨0, by omega, rfl, by simp, World.grownBy.refl _ _, HC.out⟩
    case round =>
      obtain ⟨k, hk, rfl, rfl, hg, hr⟩ := hrel
      have HR := Lib.hid hr
      by_cases hlt : k < n
      · obtain ⟨m0, n0⟩ := hr k hlt 0 (by omega); rw [if_neg (Nat.lt_irrefl k)] at m0; simp only [encWater, Nat.add_zero] at m0 n0; obtain ⟨m1, n1⟩ := hr k hlt 1 (by omega); rw [if_neg (Nat.lt_irrefl k)] at m1; simp only [encWater, Nat.add_zero] at m1 n1; obtain ⟨m2, n2⟩ := hr k hlt 2 (by omega); rw [if_neg (Nat.lt_irrefl k)] at m2; simp only [encWater, Nat.add_zero] at m2 n2; obtain ⟨m3, n3⟩ := hr k hlt 3 (by omega); rw [if_neg (Nat.lt_irrefl k)] at m3; simp only [encWater, Nat.add_zero] at m3 n3; obtain ⟨m4, n4⟩ := hr k hlt 4 (by omega); rw [if_neg (Nat.lt_irrefl k)] at m4; simp only [encWater, Nat.add_zero] at m4 n4
        clear hr
        go_wp2
        go_roundw
        case rel => exact ⟨k + 1, by omega, by go_num, by go_num, hg.trans (putC_gb [.int .i64 (k0 + 5 * (k : Int)), .int .i64 (k0 + 5 * (k : Int) + 1), .int .i64 (k0 + 5 * (k : Int) + 1 + 1), .int .i64 (k0 + 5 * (k : Int) + 1 + 1 + 1), .int .i64 (k0 + 5 * (k : Int) + 1 + 1 + 1 + 1)] wr b (o + k * 5)), HR.out.step encWater_len hlt [.int .i64 (k0 + 5 * (k : Int)), .int .i64 (k0 + 5 * (k : Int) + 1), .int .i64 (k0 + 5 * (k : Int) + 1 + 1), .int .i64 (k0 + 5 * (k : Int) + 1 + 1 + 1), .int .i64 (k0 + 5 * (k : Int) + 1 + 1 + 1 + 1)] (by simp [encWater, mkWater] <;> omega)⟩
        case measure => simp [intOf]; omega
      · clear hr
        go_wp2
        go_ret
        obtain rfl : k = n := by omega
        refine ⟨rfl, ?_, HR.out.done encWater_len (marks_Water_len _ _) (fun j hj => by rw [← getDWater hj, marks_Water_at _ _ _ (by rw [marks_Water_len] at hj; exact hj)]) h0 (Nat.lt_of_lt_of_le hbB hg.size)⟩
        exact ⟨hg.os, hg.tape, hg.output, hg.size, fun i hi' hl => hg.block i hi' (fun e => by injection e with e; omega)⟩

theorem guardWater : Tryd.prog.eqGuardType Tryd.prog.depth 47 = false := by kernel_rfl
theorem eqlWater (x0 : Int) (x1 : Int) (x2 : Int) (x3 : Int) (x4 : Int) (y0 : Int) (y1 : Int) (y2 : Int) (y3 : Int) (y4 : Int) (v : Bool) (hv : v = decide ((⟨x0, x1, x2, x3, x4⟩ : RWater) = ⟨y0, y1, y2, y3, y4⟩)) (w : World) :
    (binOp .eql 47 (.agg #[.int .i64 x0, .int .i64 x1, .int .i64 x2, .int .i64 x3, .int .i64 x4]) (.agg #[.int .i64 y0, .int .i64 y1, .int .i64 y2, .int .i64 y3, .int .i64 y4])).run Tryd.prog w = .ok (.bool v) w := by
  have hS : Tryd.prog.underlying 47 = some (.struct (Tryd.prog.fieldsOf 47)) := by kernel_rfl
  have hp : Tryd.prog.stoodInHeld 47 = false := by kernel_rfl
  rw [run_eql_struct, show (10000 : Nat) = 9999 + 1 from rfl, run_equalIn_agg w 9999 47 _ _ hS hp]
  simp only [Program.fieldsOf, Tryd.underlying47]
  go_simp
  subst hv
  by_cases h0 : x0 = y0 <;> by_cases h1 : x1 = y1 <;> by_cases h2 : x2 = y2 <;> by_cases h3 : x3 = y3 <;> by_cases h4 : x4 = y4 <;> simp [h0, h1, h2, h3, h4]
theorem neqWater (x0 : Int) (x1 : Int) (x2 : Int) (x3 : Int) (x4 : Int) (y0 : Int) (y1 : Int) (y2 : Int) (y3 : Int) (y4 : Int) (v : Bool) (hv : v = !decide ((⟨x0, x1, x2, x3, x4⟩ : RWater) = ⟨y0, y1, y2, y3, y4⟩)) (w : World) :
    (binOp .neq 47 (.agg #[.int .i64 x0, .int .i64 x1, .int .i64 x2, .int .i64 x3, .int .i64 x4]) (.agg #[.int .i64 y0, .int .i64 y1, .int .i64 y2, .int .i64 y3, .int .i64 y4])).run Tryd.prog w = .ok (.bool v) w := by
  have hS : Tryd.prog.underlying 47 = some (.struct (Tryd.prog.fieldsOf 47)) := by kernel_rfl
  have hp : Tryd.prog.stoodInHeld 47 = false := by kernel_rfl
  rw [run_neq_struct, show (10000 : Nat) = 9999 + 1 from rfl, run_equalIn_agg w 9999 47 _ _ hS hp]
  simp only [Program.fieldsOf, Tryd.underlying47]
  go_simp
  subst hv
  by_cases h0 : x0 = y0 <;> by_cases h1 : x1 = y1 <;> by_cases h2 : x2 = y2 <;> by_cases h3 : x3 = y3 <;> by_cases h4 : x4 = y4 <;> simp [h0, h1, h2, h3, h4]

end Go.Proofs.YtfpfmfhhcgafcabDoor
