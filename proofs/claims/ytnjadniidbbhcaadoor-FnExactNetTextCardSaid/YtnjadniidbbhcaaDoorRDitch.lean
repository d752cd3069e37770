/- Records of type Ditch, 3 cells each: what a row of them holds; copy, equal, mark, held. -/
import Derived.Test.YtnjadniidbbhcaaDoorRec
import Derived.Deep.RegionHeld3
import Derived.Laws.StructEq
namespace Go.Proofs.YtnjadniidbbhcaaDoor
open Go.RowKit

structure RDitch where
  f0 : Int
  f1 : Int
  f2 : Int
def zDitch : RDitch := ⟨0, 0, 0⟩
theorem RDitch.eq {a b : RDitch} (h : a.f0 = b.f0 ∧ a.f1 = b.f1 ∧ a.f2 = b.f2) : a = b := by
  cases a; cases b; simpa using h
instance : DecidableEq RDitch := fun a b => decidable_of_iff (a.f0 = b.f0 ∧ a.f1 = b.f1 ∧ a.f2 = b.f2) ⟨RDitch.eq, fun h => by subst h; simp⟩
def encDitch (x : RDitch) : List Value := [.int .i64 x.f0, .int .i64 x.f1, .int .i64 x.f2]
theorem encDitch_len (x : RDitch) : (encDitch x).length = 3 := rfl
def csDitch (xs : List RDitch) : List Value := xs.flatMap encDitch
theorem csDitch_len (xs : List RDitch) : (csDitch xs).length = xs.length * 3 := flat_len encDitch_len xs
theorem csDitch_app (xs ys : List RDitch) : csDitch (xs ++ ys) = csDitch xs ++ csDitch ys := List.flatMap_append
def okDitch (x : RDitch) : Prop := (Lit.int .i64 x.f0).wf = true ∧ (Lit.int .i64 x.f1).wf = true ∧ (Lit.int .i64 x.f2).wf = true
def Wf_Ditch (xs : List RDitch) : Prop := ∀ x ∈ xs, okDitch x
def Rd_Ditch (w : World) (B : Nat) (A : Option Addr) (n : Nat) (xs : List RDitch) : Prop := RdC w B A n 3 (csDitch xs)
def Wr_Ditch (w : World) (lo : Nat) (A : Option Addr) (n : Nat) (xs : List RDitch) : Prop := WrC w lo A n 3 (csDitch xs)
/-- one record -/
def AtDitch (w : World) (b o : Nat) (x : RDitch) : Prop := w.cell? ⟨b, o, none⟩ = some (.int .i64 x.f0) ∧ w.cell? ⟨b, o + 1, none⟩ = some (.int .i64 x.f1) ∧ w.cell? ⟨b, o + 2, none⟩ = some (.int .i64 x.f2)
def FzDitch (w : World) (b o : Nat) : Prop := w.frozen? ⟨b, o, none⟩ = false ∧ w.frozen? ⟨b, o + 1, none⟩ = false ∧ w.frozen? ⟨b, o + 2, none⟩ = false
section
variable {w w' : World} {B B' lo lo' hi n : Nat} {A : Option Addr} {xs : List RDitch}
theorem Rd_Ditch.len (h : Rd_Ditch w B A n xs) : xs.length = n := by have := h.1; rw [csDitch_len] at this; omega
theorem Wr_Ditch.len (h : Wr_Ditch w lo A n xs) : xs.length = n := by have := h.1; rw [csDitch_len] at this; omega
theorem Rd_Ditch.below (h : Rd_Ditch w B A n xs) (hb : Below B w w') : Rd_Ditch w' B A n xs := RdC.below h hb
theorem Rd_Ditch.mono (h : Rd_Ditch w B A n xs) (hB' : B ≤ B') : Rd_Ditch w B' A n xs := RdC.mono h hB'
theorem Wr_Ditch.rd (h : Wr_Ditch w lo A n xs) : Rd_Ditch w w.heap.size A n xs := WrC.rd h
theorem Wr_Ditch.below (h : Wr_Ditch w lo A n xs) (hb : Below w.heap.size w w') : Wr_Ditch w' lo A n xs := WrC.below h hb
theorem Wr_Ditch.abv (h : Wr_Ditch w lo A n xs) (hb : Abv lo w w') : Wr_Ditch w' lo A n xs := WrC.abv h hb
theorem Wr_Ditch.lower (h : Wr_Ditch w lo A n xs) (hl : lo' ≤ lo) : Wr_Ditch w lo' A n xs := WrC.lower h hl
theorem Wr_Ditch.lt (h : Wr_Ditch w lo A n xs) : Lt w.heap.size A n := WrC.lt h
theorem Wr_Ditch.chg {hi1 lo1 : Nat} (h : Wr_Ditch w lo1 A n xs) (hL : Lt hi1 A n) (c : Chg lo hi w w') (hd : hi1 ≤ lo ∨ hi ≤ lo1) : Wr_Ditch w' lo1 A n xs := WrC.chg h hL c hd
theorem getDDitch {k : Nat} (h : k < xs.length) : xs.getD k zDitch = xs[k] := by simp [List.getD_eq_getElem?_getD, h]
theorem Rd_Ditch.at (h : Rd_Ditch w B A n xs) (hn : 0 < n) : ∃ b off, A = some ⟨b, off, none⟩ ∧ b < B ∧ ∀ k, k < n → AtDitch w b (off + k * 3) (xs.getD k zDitch) := by
  obtain ⟨b, off, e, hB, hc⟩ := h.2 hn
  have hl := h.len
  refine ⟨b, off, e, hB, fun k hk => ?_⟩
  rw [getDDitch (by omega)]
  have g0 := hc (k * 3 + 0) (by rw [csDitch_len]; omega)
  rw [csDitch, flat_at encDitch_len xs k 0 (by omega) (by omega), ← Nat.add_assoc] at g0
  have g1 := hc (k * 3 + 1) (by rw [csDitch_len]; omega)
  rw [csDitch, flat_at encDitch_len xs k 1 (by omega) (by omega), ← Nat.add_assoc] at g1
  have g2 := hc (k * 3 + 2) (by rw [csDitch_len]; omega)
  rw [csDitch, flat_at encDitch_len xs k 2 (by omega) (by omega), ← Nat.add_assoc] at g2
  exact ⟨g0, g1, g2⟩
theorem Wr_Ditch.at (h : Wr_Ditch w lo A n xs) (hn : 0 < n) : ∃ b off, A = some ⟨b, off, none⟩ ∧ lo ≤ b ∧ b < w.heap.size ∧ ∀ k, k < n → AtDitch w b (off + k * 3) (xs.getD k zDitch) ∧ FzDitch w b (off + k * 3) := by
  obtain ⟨b, off, e, h0, hB, hc⟩ := h.2 hn
  have hl := h.len
  refine ⟨b, off, e, h0, hB, fun k hk => ?_⟩
  rw [getDDitch (by omega)]
  have g0 := hc (k * 3 + 0) (by rw [csDitch_len]; omega)
  rw [csDitch, flat_at encDitch_len xs k 0 (by omega) (by omega), ← Nat.add_assoc] at g0
  have g1 := hc (k * 3 + 1) (by rw [csDitch_len]; omega)
  rw [csDitch, flat_at encDitch_len xs k 1 (by omega) (by omega), ← Nat.add_assoc] at g1
  have g2 := hc (k * 3 + 2) (by rw [csDitch_len]; omega)
  rw [csDitch, flat_at encDitch_len xs k 2 (by omega) (by omega), ← Nat.add_assoc] at g2
  exact ⟨⟨g0.1, g1.1, g2.1⟩, g0.2, g1.2, g2.2⟩
theorem IsCells.rd_Ditch {len cap : Nat} (h : IsCells [gInt, gInt, gInt] w A len cap) : ∃ xs, Rd_Ditch w w.heap.size A len xs ∧ Wf_Ditch xs := by
  obtain ⟨xs, h1, _, h2⟩ := h.recs (enc := encDitch) okDitch (by simp) encDitch_len (by
    intro vs hl hg
    match vs, hl with
    | [v0, v1, v2], _ =>
      obtain ⟨q0, e0, p0⟩ := hg 0 (by simp) _ rfl
      simp only [List.getElem_cons_zero, List.getElem_cons_succ] at e0
      subst e0
      obtain ⟨q1, e1, p1⟩ := hg 1 (by simp) _ rfl
      simp only [List.getElem_cons_zero, List.getElem_cons_succ] at e1
      subst e1
      obtain ⟨q2, e2, p2⟩ := hg 2 (by simp) _ rfl
      simp only [List.getElem_cons_zero, List.getElem_cons_succ] at e2
      subst e2
      exact ⟨⟨q0, q1, q2⟩, rfl, p0, p1, p2⟩)
  exact ⟨xs, h1, h2⟩
end

set_option maxHeartbeats 400000 in
theorem toDitch_x (x0 : Int) (x1 : Int) (x2 : Int) (w : World) :
    Calls Tryd.prog 51 #[.agg #[.int .i64 x0, .int .i64 x1, .int .i64 x2]] w fun e w' => e = .returned (.agg #[.int .i64 x0, .int .i64 x1, .int .i64 x2]) ∧ Below w.heap.size w w' := by
  go_enter Tryd.func51, Tryd.ntmps51
  go_wp2
  exact bodyPost_ret (v := .agg #[.int .i64 x0, .int .i64 x1, .int .i64 x2]) (by simp [results, Tryd.results51, go_sem]) rfl ⟨rfl, (by repeat (first | assumption | exact Below.refl _ _ | (refine Below.setCell ?_ (by first | omega | (simp; done) | (simp; omega)) _) | apply below_drewN | apply Below.drew | (refine Below.alloc ?_ (by first | omega | (simp; done) | (simp; omega)) _)))⟩

set_option maxHeartbeats 400000 in
theorem eqDitch_x (x0 : Int) (x1 : Int) (x2 : Int) (w : World) :
    Calls Tryd.prog 57 #[.agg #[.int .i64 x0, .int .i64 x1, .int .i64 x2], .agg #[.int .i64 x0, .int .i64 x1, .int .i64 x2]] w fun e w' => e = .returned (.bool true) ∧ Below w.heap.size w w' := by
  have e0 : (x0 != x0) = false := by simp
  have e1 : (x1 != x1) = false := by simp
  have e2 : (x2 != x2) = false := by simp
  go_enter Tryd.func57, Tryd.ntmps57
  go_wp2
  go_ret
  exact ⟨rfl, (by repeat (first | assumption | exact Below.refl _ _ | (refine Below.setCell ?_ (by first | omega | (simp; done) | (simp; omega)) _) | apply below_drewN | apply Below.drew | (refine Below.alloc ?_ (by first | omega | (simp; done) | (simp; omega)) _)))⟩

set_option maxHeartbeats 400000 in
theorem eqDitchS_x (A B : Option Addr) (n c d : Nat) (xs : List RDitch) (w : World) (hn : n ≤ 1048576) (ha : Rd_Ditch w w.heap.size A n xs) (hb : Rd_Ditch w w.heap.size B n xs) :
    Calls Tryd.prog 34 #[.slice A n c, .slice B n d] w fun e w' => e = .returned (.bool true) ∧ Below w.heap.size w w' := by
  have h0 : ((n : Int) != (n : Int)) = false := by simp
  have HA := Lib.hid ha
  have HB := Lib.hid hb
  clear ha hb
  go_enter Tryd.func34, Tryd.ntmps34
  go_wp2
  go_loopw [5] (fun i wr => ∃ k : Nat, k ≤ n ∧ i = .int .i64 (k : Int) ∧ Below w.heap.size w wr) (fun i _ => n - (intOf i).toNat)
  case atStart => exact ⟨0, by omega, rfl, Below.refl _ _⟩
  case round =>
    obtain ⟨k, hk, rfl, hb⟩ := hrel
    by_cases hlt : k < n
    · obtain ⟨b, o, rfl, hB, hc⟩ := (HA.out.below hb).at (by omega)
      obtain ⟨b', o', rfl, hB', hc'⟩ := (HB.out.below hb).at (by omega)
      have p := hc k hlt
      have p' := hc' k hlt
      clear hc hc'
      generalize xs.getD k zDitch = x at p p'
      obtain ⟨y0, y1, y2⟩ := x
      obtain ⟨p0, p1, p2⟩ := p
      obtain ⟨p0', p1', p2'⟩ := p'
      simp only at p0 p0' p1 p1' p2 p2'
      have hsz := hb.size
      have hb1 : b < wr.heap.size := by omega
      have hb2 : b' < wr.heap.size := by omega
      go_wp2_with fail
      go_region_held3 (fun w' => w'.cell? ⟨b, o + k * 3, none⟩ = some (.int .i64 y0) ∧ w'.cell? ⟨b', o' + k * 3, none⟩ = some (.int .i64 y0) ∧ w'.cell? ⟨b, o + k * 3 + 1, none⟩ = some (.int .i64 y1) ∧ w'.cell? ⟨b', o' + k * 3 + 1, none⟩ = some (.int .i64 y1) ∧ w'.cell? ⟨b, o + k * 3 + 2, none⟩ = some (.int .i64 y2) ∧ w'.cell? ⟨b', o' + k * 3 + 2, none⟩ = some (.int .i64 y2)) (go_keep) (first | (go_at_call 57; refine (eqDitch_x _ _ _ _).mono ?_; rintro e1 W1 ⟨rfl, b1⟩; have d1 : Below w.heap.size w W1 := (by repeat (first | assumption | exact Below.refl _ _ | (refine Below.trans ?_ (b1.mono (by first | omega | (simp; done) | (simp; omega)))) | (refine Below.setCell ?_ (by first | omega | (simp; done) | (simp; omega)) _) | apply below_drewN | apply Below.drew | (refine Below.alloc ?_ (by first | omega | (simp; done) | (simp; omega)) _))); have z0 : W1.cell? ⟨b, o + k * 3, none⟩ = _ := (b1.cell (p := ⟨b, o + k * 3, none⟩) hb1).trans p0; have z0' : W1.cell? ⟨b', o' + k * 3, none⟩ = _ := (b1.cell (p := ⟨b', o' + k * 3, none⟩) hb2).trans p0'; have z1 : W1.cell? ⟨b, o + k * 3 + 1, none⟩ = _ := (b1.cell (p := ⟨b, o + k * 3 + 1, none⟩) hb1).trans p1; have z1' : W1.cell? ⟨b', o' + k * 3 + 1, none⟩ = _ := (b1.cell (p := ⟨b', o' + k * 3 + 1, none⟩) hb2).trans p1'; have z2 : W1.cell? ⟨b, o + k * 3 + 2, none⟩ = _ := (b1.cell (p := ⟨b, o + k * 3 + 2, none⟩) hb1).trans p2; have z2' : W1.cell? ⟨b', o' + k * 3 + 2, none⟩ = _ := (b1.cell (p := ⟨b', o' + k * 3 + 2, none⟩) hb2).trans p2'))
      go_wp2
      go_roundw
      case rel => exact ⟨k + 1, by omega, by go_num, d1⟩
      case measure => simp [intOf]; omega
    · go_wp2
      go_ret
      exact ⟨rfl, hb⟩

theorem info_Ditch : (Tryd.prog.info? 64).map (fun i => (i.zero, i.size, i.bytes)) = some (some (.agg #[.int .i64 0, .int .i64 0, .int .i64 0]), 3, 24) := by kernel_rfl

set_option maxHeartbeats 800000 in
theorem toDitchS_xc (A : Option Addr) (n c : Nat) (xs : List RDitch) (w : World) (hn : n ≤ 1048576) (ha : Rd_Ditch w w.heap.size A n xs) :
    Calls Tryd.prog 29 #[.slice A n c] w fun e w' => ∃ B d, e = .returned (.slice B n d) ∧ Below w.heap.size w w' ∧ Wr_Ditch w' w.heap.size B n xs ∧ n ≤ d := by
  obtain ⟨i0, hi, hz0, hz1, hz2⟩ := info_parts info_Ditch
  have hmk := fun W => run_make_rowN (P := Tryd.prog) 33 64 i0 (.agg #[.int .i64 0, .int .i64 0, .int .i64 0]) Tryd.underlying33 hi hz0 .i64 .i64 n n (Nat.le_refl _) (by rw [hz2]; omega) (by omega) W
  rw [hz1] at hmk
  clear hi hz0 hz1 hz2
  have HA := Lib.hid ha
  clear ha
  go_enter Tryd.func29, Tryd.ntmps29
  go_wp2
  go_loopw [4] (fun i wr => ∃ k : Nat, k ≤ n ∧ i = .int .i64 (k : Int) ∧ Below w.heap.size w wr ∧ w.heap.size < wr.heap.size ∧ HalfR encDitch 3 n w.heap.size 0 (fun j => xs.getD j zDitch) (fun _ => zDitch) k wr) (fun i _ => n - (intOf i).toNat)
  case atStart => exact ⟨0, by omega, rfl, (Below.refl _ _).alloc (Nat.le_refl _) _, by simp, HalfR.new encDitch_len _ _ _ _ _ _ rfl _ rfl (by omega)⟩
  case round =>
    obtain ⟨k, hk, rfl, hb, hs, hr⟩ := hrel
    by_cases hlt : k < n
    · obtain ⟨b, o, rfl, hbB, hc⟩ := (HA.out.below hb).at (by omega)
      have HR := Lib.hid hr
      clear hr
      have hx := hc k hlt
      clear hc
      obtain ⟨x, ex⟩ : ∃ x, x = xs.getD k zDitch := ⟨_, rfl⟩
      rw [← ex] at hx
      have EX := Lib.hid ex
      clear ex
      obtain ⟨y0, y1, y2⟩ := x
      obtain ⟨p0, p1, p2⟩ := hx
      simp only at p0 p1 p2
      go_wp2_with (go_at_call 51; refine (toDitch_x _ _ _ _).mono ?_; rintro e1 W1 ⟨rfl, b1⟩; have s1 : wr.heap.size ≤ W1.heap.size := b1.size; have HR1 : HalfR encDitch 3 n w.heap.size 0 (fun j => xs.getD j zDitch) (fun _ => zDitch) k W1 := (fun j hj i hi => ⟨(b1.cell (p := ⟨w.heap.size, _, none⟩) hs).trans (HR.out j hj i hi).1, (b1.frozen (p := ⟨w.heap.size, _, none⟩) hs).trans (HR.out j hj i hi).2⟩); obtain ⟨m0, n0⟩ := HR1 k hlt 0 (by omega); rw [if_neg (Nat.lt_irrefl k)] at m0; simp only [encDitch, Nat.zero_add, Nat.add_zero] at m0 n0; obtain ⟨m1, n1⟩ := HR1 k hlt 1 (by omega); rw [if_neg (Nat.lt_irrefl k)] at m1; simp only [encDitch, Nat.zero_add, Nat.add_zero] at m1 n1; obtain ⟨m2, n2⟩ := HR1 k hlt 2 (by omega); rw [if_neg (Nat.lt_irrefl k)] at m2; simp only [encDitch, Nat.zero_add, Nat.add_zero] at m2 n2; have HQ := Lib.hid HR1; clear HR1)
      go_roundw
      case rel => exact ⟨k + 1, by omega, by go_num, (by repeat (first | assumption | exact Below.refl _ _ | (refine Below.trans ?_ (b1.mono (by first | omega | (simp; done) | (simp; omega)))) | (refine Below.setCell ?_ (by first | omega | (simp; done) | (simp; omega)) _) | apply below_drewN | apply Below.drew | (refine Below.alloc ?_ (by first | omega | (simp; done) | (simp; omega)) _))), by simp; omega, by have := HQ.out.step encDitch_len hlt _ (show encDitch ⟨y0, y1, y2⟩ = encDitch (xs.getD k zDitch) by rw [EX.out]); simp only [Nat.zero_add] at this; exact this⟩
      case measure => simp [intOf]; omega
    · go_wp2
      go_ret
      obtain rfl : k = n := by omega
      exact ⟨_, _, rfl, hb, hr.done encDitch_len HA.out.len (fun j hj => (getDDitch hj).symm) (Nat.le_refl _) hs, Nat.le_refl _⟩

theorem toDitchS_x (A : Option Addr) (n c : Nat) (xs : List RDitch) (w : World) (hn : n ≤ 1048576) (ha : Rd_Ditch w w.heap.size A n xs) :
    Calls Tryd.prog 29 #[.slice A n c] w fun e w' => ∃ B d, e = .returned (.slice B n d) ∧ Below w.heap.size w w' ∧ Wr_Ditch w' w.heap.size B n xs :=
  (toDitchS_xc A n c xs w hn ha).mono fun _ _ ⟨B, d, he, hb, hw, _⟩ => ⟨B, d, he, hb, hw⟩

set_option maxHeartbeats 400000 in
theorem szDitchS_ok (A : Option Addr) (n k : Nat) (left : Int) (w : World) (h : (n : Int) ≤ left) (h2 : left ≤ 1048576) :
    Calls Tryd.prog 26 #[.slice A n k, .int .i64 left] w fun e w' => e = .returned (.int .i64 (left - (n : Int))) ∧ Below w.heap.size w w' := by
  go_enter Tryd.func26, Tryd.ntmps26
  go_wp2
  go_ret
  exact ⟨rfl, (by repeat (first | assumption | exact Below.refl _ _ | (refine Below.setCell ?_ (by first | omega | (simp; done) | (simp; omega)) _) | apply below_drewN | apply Below.drew | (refine Below.alloc ?_ (by first | omega | (simp; done) | (simp; omega)) _)))⟩

set_option maxHeartbeats 400000 in
theorem szDitchS_no (A : Option Addr) (n k : Nat) (left : Int) (w : World) (hn : n ≤ maxLen) (h : left < (n : Int)) (h2 : 0 ≤ left) :
    Calls Tryd.prog 26 #[.slice A n k, .int .i64 left] w fun e w' => e = .returned (.int .i64 (-1)) ∧ Below w.heap.size w w' := by
  unfold maxLen at hn
  go_enter Tryd.func26, Tryd.ntmps26
  go_wp2
  go_ret
  exact ⟨rfl, (by repeat (first | assumption | exact Below.refl _ _ | (refine Below.setCell ?_ (by first | omega | (simp; done) | (simp; omega)) _) | apply below_drewN | apply Below.drew | (refine Below.alloc ?_ (by first | omega | (simp; done) | (simp; omega)) _)))⟩

/-- what the marks of a row are -/
def mkDitch (k : Int) (j : Nat) : RDitch := ⟨k + 3 * (j : Int), k + 3 * (j : Int) + 1, k + 3 * (j : Int) + 2⟩
def marks_Ditch (k : Int) (n : Nat) : List RDitch := (List.range n).map (mkDitch k)
theorem marks_Ditch_len (k : Int) (n : Nat) : (marks_Ditch k n).length = n := by simp [marks_Ditch]
theorem marks_Ditch_at (k : Int) (n j : Nat) (h : j < n) : (marks_Ditch k n).getD j zDitch = mkDitch k j := by
  simp [marks_Ditch, List.getD_eq_getElem?_getD, h]

theorem guardDitch : Tryd.prog.eqGuardType Tryd.prog.depth 64 = false := by kernel_rfl
theorem eqlDitch (x0 : Int) (x1 : Int) (x2 : Int) (y0 : Int) (y1 : Int) (y2 : Int) (v : Bool) (hv : v = decide ((⟨x0, x1, x2⟩ : RDitch) = ⟨y0, y1, y2⟩)) (w : World) :
    (binOp .eql 64 (.agg #[.int .i64 x0, .int .i64 x1, .int .i64 x2]) (.agg #[.int .i64 y0, .int .i64 y1, .int .i64 y2])).run Tryd.prog w = .ok (.bool v) w := by
  have hS : Tryd.prog.underlying 64 = some (.struct (Tryd.prog.fieldsOf 64)) := by kernel_rfl
  have hp : Tryd.prog.stoodInHeld 64 = false := by kernel_rfl
  rw [run_eql_struct, show (10000 : Nat) = 9999 + 1 from rfl, run_equalIn_agg w 9999 64 _ _ hS hp]
  simp only [Program.fieldsOf, Tryd.underlying64]
  go_simp
  subst hv
  by_cases h0 : x0 = y0 <;> by_cases h1 : x1 = y1 <;> by_cases h2 : x2 = y2 <;> simp [h0, h1, h2]
theorem neqDitch (x0 : Int) (x1 : Int) (x2 : Int) (y0 : Int) (y1 : Int) (y2 : Int) (v : Bool) (hv : v = !decide ((⟨x0, x1, x2⟩ : RDitch) = ⟨y0, y1, y2⟩)) (w : World) :
    (binOp .neq 64 (.agg #[.int .i64 x0, .int .i64 x1, .int .i64 x2]) (.agg #[.int .i64 y0, .int .i64 y1, .int .i64 y2])).run Tryd.prog w = .ok (.bool v) w := by
  have hS : Tryd.prog.underlying 64 = some (.struct (Tryd.prog.fieldsOf 64)) := by kernel_rfl
  have hp : Tryd.prog.stoodInHeld 64 = false := by kernel_rfl
  rw [run_neq_struct, show (10000 : Nat) = 9999 + 1 from rfl, run_equalIn_agg w 9999 64 _ _ hS hp]
  simp only [Program.fieldsOf, Tryd.underlying64]
  go_simp
  subst hv
  by_cases h0 : x0 = y0 <;> by_cases h1 : x1 = y1 <;> by_cases h2 : x2 = y2 <;> simp [h0, h1, h2]

end Go.Proofs.YtnjadniidbbhcaaDoor
