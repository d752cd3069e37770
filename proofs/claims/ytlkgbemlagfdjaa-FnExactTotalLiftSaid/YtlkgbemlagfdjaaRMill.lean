/- Records of type Mill, 4 cells each: what a row of them holds; copy, equal, mark, held. -/
import Derived.Test.YtlkgbemlagfdjaaRec
import Derived.Deep.RegionHeld3
import Derived.Laws.StructEq
namespace Go.Proofs.Ytlkgbemlagfdjaa
open Go.RowKit

structure RMill where
  f0 : Int
  f1 : Int
  f2 : Int
  f3 : Int
def zMill : RMill := ⟨0, 0, 0, 0⟩
theorem RMill.eq {a b : RMill} (h : a.f0 = b.f0 ∧ a.f1 = b.f1 ∧ a.f2 = b.f2 ∧ a.f3 = b.f3) : a = b := by
  cases a; cases b; simpa using h
instance : DecidableEq RMill := fun a b => decidable_of_iff (a.f0 = b.f0 ∧ a.f1 = b.f1 ∧ a.f2 = b.f2 ∧ a.f3 = b.f3) ⟨RMill.eq, fun h => by subst h; simp⟩
def encMill (x : RMill) : List Value := [.int .i64 x.f0, .int .i64 x.f1, .int .i64 x.f2, .int .i64 x.f3]
theorem encMill_len (x : RMill) : (encMill x).length = 4 := rfl
def csMill (xs : List RMill) : List Value := xs.flatMap encMill
theorem csMill_len (xs : List RMill) : (csMill xs).length = xs.length * 4 := flat_len encMill_len xs
theorem csMill_app (xs ys : List RMill) : csMill (xs ++ ys) = csMill xs ++ csMill ys := List.flatMap_append
def okMill (x : RMill) : Prop := (Lit.int .i64 x.f0).wf = true ∧ (Lit.int .i64 x.f1).wf = true ∧ (Lit.int .i64 x.f2).wf = true ∧ (Lit.int .i64 x.f3).wf = true
def Wf_Mill (xs : List RMill) : Prop := ∀ x ∈ xs, okMill x
def Rd_Mill (w : World) (B : Nat) (A : Option Addr) (n : Nat) (xs : List RMill) : Prop := RdC w B A n 4 (csMill xs)
def Wr_Mill (w : World) (lo : Nat) (A : Option Addr) (n : Nat) (xs : List RMill) : Prop := WrC w lo A n 4 (csMill xs)
/-- one record -/
def AtMill (w : World) (b o : Nat) (x : RMill) : Prop := w.cell? ⟨b, o, none⟩ = some (.int .i64 x.f0) ∧ w.cell? ⟨b, o + 1, none⟩ = some (.int .i64 x.f1) ∧ w.cell? ⟨b, o + 2, none⟩ = some (.int .i64 x.f2) ∧ w.cell? ⟨b, o + 3, none⟩ = some (.int .i64 x.f3)
def FzMill (w : World) (b o : Nat) : Prop := w.frozen? ⟨b, o, none⟩ = false ∧ w.frozen? ⟨b, o + 1, none⟩ = false ∧ w.frozen? ⟨b, o + 2, none⟩ = false ∧ w.frozen? ⟨b, o + 3, none⟩ = false
section
variable {w w' : World} {B B' lo lo' hi n : Nat} {A : Option Addr} {xs : List RMill}
theorem Rd_Mill.len (h : Rd_Mill w B A n xs) : xs.length = n := by have := h.1; rw [csMill_len] at this; omega
theorem Wr_Mill.len (h : Wr_Mill w lo A n xs) : xs.length = n := by have := h.1; rw [csMill_len] at this; omega
theorem Rd_Mill.below (h : Rd_Mill w B A n xs) (hb : Below B w w') : Rd_Mill w' B A n xs := RdC.below h hb
theorem Rd_Mill.mono (h : Rd_Mill w B A n xs) (hB' : B ≤ B') : Rd_Mill w B' A n xs := RdC.mono h hB'
theorem Wr_Mill.rd (h : Wr_Mill w lo A n xs) : Rd_Mill w w.heap.size A n xs := WrC.rd h
theorem Wr_Mill.below (h : Wr_Mill w lo A n xs) (hb : Below w.heap.size w w') : Wr_Mill w' lo A n xs := WrC.below h hb
theorem Wr_Mill.abv (h : Wr_Mill w lo A n xs) (hb : Abv lo w w') : Wr_Mill w' lo A n xs := WrC.abv h hb
theorem Wr_Mill.lower (h : Wr_Mill w lo A n xs) (hl : lo' ≤ lo) : Wr_Mill w lo' A n xs := WrC.lower h hl
theorem Wr_Mill.lt (h : Wr_Mill w lo A n xs) : Lt w.heap.size A n := WrC.lt h
theorem Wr_Mill.chg {hi1 lo1 : Nat} (h : Wr_Mill w lo1 A n xs) (hL : Lt hi1 A n) (c : Chg lo hi w w') (hd : hi1 ≤ lo ∨ hi ≤ lo1) : Wr_Mill w' lo1 A n xs := WrC.chg h hL c hd
theorem getDMill {k : Nat} (h : k < xs.length) : xs.getD k zMill = xs[k] := by simp [List.getD_eq_getElem?_getD, h]
theorem Rd_Mill.at (h : Rd_Mill w B A n xs) (hn : 0 < n) : ∃ b off, A = some ⟨b, off, none⟩ ∧ b < B ∧ ∀ k, k < n → AtMill w b (off + k * 4) (xs.getD k zMill) := by
  obtain ⟨b, off, e, hB, hc⟩ := h.2 hn
  have hl := h.len
  refine ⟨b, off, e, hB, fun k hk => ?_⟩
  rw [getDMill (by omega)]
  have g0 := hc (k * 4 + 0) (by rw [csMill_len]; omega)
  rw [csMill, flat_at encMill_len xs k 0 (by omega) (by omega), ← Nat.add_assoc] at g0
  have g1 := hc (k * 4 + 1) (by rw [csMill_len]; omega)
  rw [csMill, flat_at encMill_len xs k 1 (by omega) (by omega), ← Nat.add_assoc] at g1
  have g2 := hc (k * 4 + 2) (by rw [csMill_len]; omega)
  rw [csMill, flat_at encMill_len xs k 2 (by omega) (by omega), ← Nat.add_assoc] at g2
  have g3 := hc (k * 4 + 3) (by rw [csMill_len]; omega)
  rw [csMill, flat_at encMill_len xs k 3 (by omega) (by omega), ← Nat.add_assoc] at g3
  exact ⟨g0, g1, g2, g3⟩
theorem Wr_Mill.at (h : Wr_Mill w lo A n xs) (hn : 0 < n) : ∃ b off, A = some ⟨b, off, none⟩ ∧ lo ≤ b ∧ b < w.heap.size ∧ ∀ k, k < n → AtMill w b (off + k * 4) (xs.getD k zMill) ∧ FzMill w b (off + k * 4) := by
  obtain ⟨b, off, e, h0, hB, hc⟩ := h.2 hn
  have hl := h.len
  refine ⟨b, off, e, h0, hB, fun k hk => ?_⟩
  rw [getDMill (by omega)]
  have g0 := hc (k * 4 + 0) (by rw [csMill_len]; omega)
  rw [csMill, flat_at encMill_len xs k 0 (by omega) (by omega), ← Nat.add_assoc] at g0
  have g1 := hc (k * 4 + 1) (by rw [csMill_len]; omega)
  rw [csMill, flat_at encMill_len xs k 1 (by omega) (by omega), ← Nat.add_assoc] at g1
  have g2 := hc (k * 4 + 2) (by rw [csMill_len]; omega)
  rw [csMill, flat_at encMill_len xs k 2 (by omega) (by omega), ← Nat.add_assoc] at g2
  have g3 := hc (k * 4 + 3) (by rw [csMill_len]; omega)
  rw [csMill, flat_at encMill_len xs k 3 (by omega) (by omega), ← Nat.add_assoc] at g3
  exact ⟨⟨g0.1, g1.1, g2.1, g3.1⟩, g0.2, g1.2, g2.2, g3.2⟩
theorem IsCells.rd_Mill {len cap : Nat} (h : IsCells [gInt, gInt, gInt, gInt] w A len cap) : ∃ xs, Rd_Mill w w.heap.size A len xs ∧ Wf_Mill xs := by
  obtain ⟨xs, h1, _, h2⟩ := h.recs (enc := encMill) okMill (by simp) encMill_len (by
    intro vs hl hg
    match vs, hl with
    | [v0, v1, v2, v3], _ =>
      obtain ⟨q0, e0, p0⟩ := hg 0 (by simp) _ rfl
      simp only [List.getElem_cons_zero, List.getElem_cons_succ] at e0
      subst e0
      obtain ⟨q1, e1, p1⟩ := hg 1 (by simp) _ rfl
      simp only [List.getElem_cons_zero, List.getElem_cons_succ] at e1
      subst e1
      obtain ⟨q2, e2, p2⟩ := hg 2 (by simp) _ rfl
      simp only [List.getElem_cons_zero, List.getElem_cons_succ] at e2
      subst e2
      obtain ⟨q3, e3, p3⟩ := hg 3 (by simp) _ rfl
      simp only [List.getElem_cons_zero, List.getElem_cons_succ] at e3
      subst e3
      exact ⟨⟨q0, q1, q2, q3⟩, rfl, p0, p1, p2, p3⟩)
  exact ⟨xs, h1, h2⟩
end

set_option maxHeartbeats 400000 in
theorem toMill_x (x0 : Int) (x1 : Int) (x2 : Int) (x3 : Int) (w : World) :
    Calls Try.prog 16 #[.agg #[.int .i64 x0, .int .i64 x1, .int .i64 x2, .int .i64 x3]] w fun e w' => e = .returned (.agg #[.int .i64 x0, .int .i64 x1, .int .i64 x2, .int .i64 x3]) ∧ Below w.heap.size w w' := by
  go_enter Try.func16, Try.ntmps16
  go_wp2
  exact bodyPost_ret (v := .agg #[.int .i64 x0, .int .i64 x1, .int .i64 x2, .int .i64 x3]) (by simp [results, Try.results16, go_sem]) rfl ⟨rfl, (by repeat (first | assumption | exact Below.refl _ _ | (refine Below.setCell ?_ (by first | omega | (simp; done) | (simp; omega)) _) | apply below_drewN | apply Below.drew | (refine Below.alloc ?_ (by first | omega | (simp; done) | (simp; omega)) _)))⟩

set_option maxHeartbeats 400000 in
theorem eqMill_x (x0 : Int) (x1 : Int) (x2 : Int) (x3 : Int) (w : World) :
    Calls Try.prog 96 #[.agg #[.int .i64 x0, .int .i64 x1, .int .i64 x2, .int .i64 x3], .agg #[.int .i64 x0, .int .i64 x1, .int .i64 x2, .int .i64 x3]] w fun e w' => e = .returned (.bool true) ∧ Below w.heap.size w w' := by
  have e0 : (x0 != x0) = false := by simp
  have e1 : (x1 != x1) = false := by simp
  have e2 : (x2 != x2) = false := by simp
  have e3 : (x3 != x3) = false := by simp
  go_enter Try.func96, Try.ntmps96
  go_wp2
  go_ret
  exact ⟨rfl, (by repeat (first | assumption | exact Below.refl _ _ | (refine Below.setCell ?_ (by first | omega | (simp; done) | (simp; omega)) _) | apply below_drewN | apply Below.drew | (refine Below.alloc ?_ (by first | omega | (simp; done) | (simp; omega)) _)))⟩

set_option maxHeartbeats 400000 in
theorem eqMillS_x (A B : Option Addr) (n c d : Nat) (xs : List RMill) (w : World) (hn : n ≤ 1048576) (ha : Rd_Mill w w.heap.size A n xs) (hb : Rd_Mill w w.heap.size B n xs) :
    Calls Try.prog 63 #[.slice A n c, .slice B n d] w fun e w' => e = .returned (.bool true) ∧ Below w.heap.size w w' := by
  have h0 : ((n : Int) != (n : Int)) = false := by simp
  have HA := Lib.hid ha
  have HB := Lib.hid hb
  clear ha hb
  go_enter Try.func63, Try.ntmps63
  go_wp2
  go_loopw [5] (fun i wr => ∃ k : Nat, k ≤ n ∧ i = .int .i64 (k : Int) ∧ Below w.heap.size w wr) (fun i _ => n - (intOf i).toNat)
  case atStart => exact ⟨0, by omega, rfl, Below.refl _ _⟩
  case round =>
    obtain ⟨k, hk, rfl, hb⟩ := hrel
    by_cases hlt : k < n
    · obtain ⟨b, o, rfl, hB, hc⟩ := (HA.out.below hb).at (by omega)
      obtain ⟨b', o', rfl, hB', hc'⟩ := (HB.out.below hb).at (by omega)
      have p := hc k hlt
      have p' := hc' k hlt
      clear hc hc'
      generalize xs.getD k zMill = x at p p'
      obtain ⟨y0, y1, y2, y3⟩ := x
      obtain ⟨p0, p1, p2, p3⟩ := p
      obtain ⟨p0', p1', p2', p3'⟩ := p'
      simp only at p0 p0' p1 p1' p2 p2' p3 p3'
      have hsz := hb.size
      have hb1 : b < wr.heap.size := by omega
      have hb2 : b' < wr.heap.size := by omega
      go_wp2_with fail
      go_region_held3 (fun w' => w'.cell? ⟨b, o + k * 4, none⟩ = some (.int .i64 y0) ∧ w'.cell? ⟨b', o' + k * 4, none⟩ = some (.int .i64 y0) ∧ w'.cell? ⟨b, o + k * 4 + 1, none⟩ = some (.int .i64 y1) ∧ w'.cell? ⟨b', o' + k * 4 + 1, none⟩ = some (.int .i64 y1) ∧ w'.cell? ⟨b, o + k * 4 + 2, none⟩ = some (.int .i64 y2) ∧ w'.cell? ⟨b', o' + k * 4 + 2, none⟩ = some (.int .i64 y2) ∧ w'.cell? ⟨b, o + k * 4 + 3, none⟩ = some (.int .i64 y3) ∧ w'.cell? ⟨b', o' + k * 4 + 3, none⟩ = some (.int .i64 y3)) (go_keep) (first | (go_at_call 96; refine (eqMill_x _ _ _ _ _).mono ?_; rintro e1 W1 ⟨rfl, b1⟩; have d1 : Below w.heap.size w W1 := (by repeat (first | assumption | exact Below.refl _ _ | (refine Below.trans ?_ (b1.mono (by first | omega | (simp; done) | (simp; omega)))) | (refine Below.setCell ?_ (by first | omega | (simp; done) | (simp; omega)) _) | apply below_drewN | apply Below.drew | (refine Below.alloc ?_ (by first | omega | (simp; done) | (simp; omega)) _))); have z0 : W1.cell? ⟨b, o + k * 4, none⟩ = _ := (b1.cell (p := ⟨b, o + k * 4, none⟩) hb1).trans p0; have z0' : W1.cell? ⟨b', o' + k * 4, none⟩ = _ := (b1.cell (p := ⟨b', o' + k * 4, none⟩) hb2).trans p0'; have z1 : W1.cell? ⟨b, o + k * 4 + 1, none⟩ = _ := (b1.cell (p := ⟨b, o + k * 4 + 1, none⟩) hb1).trans p1; have z1' : W1.cell? ⟨b', o' + k * 4 + 1, none⟩ = _ := (b1.cell (p := ⟨b', o' + k * 4 + 1, none⟩) hb2).trans p1'; have z2 : W1.cell? ⟨b, o + k * 4 + 2, none⟩ = _ := (b1.cell (p := ⟨b, o + k * 4 + 2, none⟩) hb1).trans p2; have z2' : W1.cell? ⟨b', o' + k * 4 + 2, none⟩ = _ := (b1.cell (p := ⟨b', o' + k * 4 + 2, none⟩) hb2).trans p2'; have z3 : W1.cell? ⟨b, o + k * 4 + 3, none⟩ = _ := (b1.cell (p := ⟨b, o + k * 4 + 3, none⟩) hb1).trans p3; have z3' : W1.cell? ⟨b', o' + k * 4 + 3, none⟩ = _ := (b1.cell (p := ⟨b', o' + k * 4 + 3, none⟩) hb2).trans p3'))
      go_wp2
      go_roundw
      case rel => exact ⟨k + 1, by omega, by go_num, d1⟩
      case measure => simp [intOf]; omega
    · go_wp2
      go_ret
      exact ⟨rfl, hb⟩

theorem info_Mill : (Try.prog.info? 25).map (fun i => (i.zero, i.size, i.bytes)) = some (some (.agg #[.int .i64 0, .int .i64 0, .int .i64 0, .int .i64 0]), 4, 32) := by kernel_rfl

set_option maxHeartbeats 800000 in
theorem toMillS_xc (A : Option Addr) (n c : Nat) (xs : List RMill) (w : World) (hn : n ≤ 1048576) (ha : Rd_Mill w w.heap.size A n xs) :
    Calls Try.prog 60 #[.slice A n c] w fun e w' => ∃ B d, e = .returned (.slice B n d) ∧ Below w.heap.size w w' ∧ Wr_Mill w' w.heap.size B n xs ∧ n ≤ d := by
  obtain ⟨i0, hi, hz0, hz1, hz2⟩ := info_parts info_Mill
  have hmk := fun W => run_make_rowN (P := Try.prog) 65 25 i0 (.agg #[.int .i64 0, .int .i64 0, .int .i64 0, .int .i64 0]) Try.underlying65 hi hz0 .i64 .i64 n n (Nat.le_refl _) (by rw [hz2]; omega) (by omega) W
  rw [hz1] at hmk
  clear hi hz0 hz1 hz2
  have HA := Lib.hid ha
  clear ha
  go_enter Try.func60, Try.ntmps60
  go_wp2
  go_loopw [4] (fun i wr => ∃ k : Nat, k ≤ n ∧ i = .int .i64 (k : Int) ∧ Below w.heap.size w wr ∧ w.heap.size < wr.heap.size ∧ HalfR encMill 4 n w.heap.size 0 (fun j => xs.getD j zMill) (fun _ => zMill) k wr) (fun i _ => n - (intOf i).toNat)
  case atStart => exact ⟨0, by omega, rfl, (Below.refl _ _).alloc (Nat.le_refl _) _, by simp, HalfR.new encMill_len _ _ _ _ _ _ rfl _ rfl (by omega)⟩
  case round =>
    obtain ⟨k, hk, rfl, hb, hs, hr⟩ := hrel
    by_cases hlt : k < n
    · obtain ⟨b, o, rfl, hbB, hc⟩ := (HA.out.below hb).at (by omega)
      have HR := Lib.hid hr
      clear hr
      have hx := hc k hlt
      clear hc
      obtain ⟨x, ex⟩ : ∃ x, x = xs.getD k zMill := ⟨_, rfl⟩
      rw [← ex] at hx
      have EX := Lib.hid ex
      clear ex
      obtain ⟨y0, y1, y2, y3⟩ := x
      obtain ⟨p0, p1, p2, p3⟩ := hx
      simp only at p0 p1 p2 p3
      go_wp2_with (go_at_call 16; refine (toMill_x _ _ _ _ _).mono ?_; rintro e1 W1 ⟨rfl, b1⟩; have s1 : wr.heap.size ≤ W1.heap.size := b1.size; have HR1 : HalfR encMill 4 n w.heap.size 0 (fun j => xs.getD j zMill) (fun _ => zMill) k W1 := (fun j hj i hi => ⟨(b1.cell (p := ⟨w.heap.size, _, none⟩) hs).trans (HR.out j hj i hi).1, (b1.frozen (p := ⟨w.heap.size, _, none⟩) hs).trans (HR.out j hj i hi).2⟩); obtain ⟨m0, n0⟩ := HR1 k hlt 0 (by omega); rw [if_neg (Nat.lt_irrefl k)] at m0; simp only [encMill, Nat.zero_add, Nat.add_zero] at m0 n0; obtain ⟨m1, n1⟩ := HR1 k hlt 1 (by omega); rw [if_neg (Nat.lt_irrefl k)] at m1; simp only [encMill, Nat.zero_add, Nat.add_zero] at m1 n1; obtain ⟨m2, n2⟩ := HR1 k hlt 2 (by omega); rw [if_neg (Nat.lt_irrefl k)] at m2; simp only [encMill, Nat.zero_add, Nat.add_zero] at m2 n2; obtain ⟨m3, n3⟩ := HR1 k hlt 3 (by omega); rw [if_neg (Nat.lt_irrefl k)] at m3; simp only [encMill, Nat.zero_add, Nat.add_zero] at m3 n3; have HQ := Lib.hid HR1; clear HR1)
      go_roundw
      case rel => exact ⟨k + 1, by omega, by go_num, (by repeat (first | assumption | exact Below.refl _ _ | (refine Below.trans ?_ (b1.mono (by first | omega | (simp; done) | (simp; omega)))) | (refine Below.setCell ?_ (by first | omega | (simp; done) | (simp; omega)) _) | apply below_drewN | apply Below.drew | (refine Below.alloc ?_ (by first | omega | (simp; done) | (simp; omega)) _))), by simp; omega, by have := HQ.out.step encMill_len hlt _ (show encMill ⟨y0, y1, y2, y3⟩ = encMill (xs.getD k zMill) by rw [EX.out]); simp only [Nat.zero_add] at this; exact this⟩
      case measure => simp [intOf]; omega
    · go_wp2
      go_ret
      obtain rfl : k = n := by omega
      exact ⟨_, _, rfl, hb, hr.done encMill_len HA.out.len (fun j hj => (getDMill hj).symm) (Nat.le_refl _) hs, Nat.le_refl _⟩

theorem toMillS_x (A : Option Addr) (n c : Nat) (xs : List RMill) (w : World) (hn : n ≤ 1048576) (ha : Rd_Mill w w.heap.size A n xs) :
    Calls Try.prog 60 #[.slice A n c] w fun e w' => ∃ B d, e = .returned (.slice B n d) ∧ Below w.heap.size w w' ∧ Wr_Mill w' w.heap.size B n xs :=
  (toMillS_xc A n c xs w hn ha).mono fun _ _ ⟨B, d, he, hb, hw, _⟩ => ⟨B, d, he, hb, hw⟩

set_option maxHeartbeats 400000 in
theorem szMillS_ok (A : Option Addr) (n k : Nat) (left : Int) (w : World) (h : (n : Int) ≤ left) (h2 : left ≤ 1048576) :
    Calls Try.prog 58 #[.slice A n k, .int .i64 left] w fun e w' => e = .returned (.int .i64 (left - (n : Int))) ∧ Below w.heap.size w w' := by
  go_enter Try.func58, Try.ntmps58
  go_wp2
  go_ret
  exact ⟨rfl, (by repeat (first | assumption | exact Below.refl _ _ | (refine Below.setCell ?_ (by first | omega | (simp; done) | (simp; omega)) _) | apply below_drewN | apply Below.drew | (refine Below.alloc ?_ (by first | omega | (simp; done) | (simp; omega)) _)))⟩

set_option maxHeartbeats 400000 in
theorem szMillS_no (A : Option Addr) (n k : Nat) (left : Int) (w : World) (hn : n ≤ maxLen) (h : left < (n : Int)) (h2 : 0 ≤ left) :
    Calls Try.prog 58 #[.slice A n k, .int .i64 left] w fun e w' => e = .returned (.int .i64 (-1)) ∧ Below w.heap.size w w' := by
  unfold maxLen at hn
  go_enter Try.func58, Try.ntmps58
  go_wp2
  go_ret
  exact ⟨rfl, (by repeat (first | assumption | exact Below.refl _ _ | (refine Below.setCell ?_ (by first | omega | (simp; done) | (simp; omega)) _) | apply below_drewN | apply Below.drew | (refine Below.alloc ?_ (by first | omega | (simp; done) | (simp; omega)) _)))⟩

/-- what the marks of a row are -/
def mkMill (k : Int) (j : Nat) : RMill := ⟨k + 4 * (j : Int), k + 4 * (j : Int) + 1, k + 4 * (j : Int) + 2, k + 4 * (j : Int) + 3⟩
def marks_Mill (k : Int) (n : Nat) : List RMill := (List.range n).map (mkMill k)
theorem marks_Mill_len (k : Int) (n : Nat) : (marks_Mill k n).length = n := by simp [marks_Mill]
theorem marks_Mill_at (k : Int) (n j : Nat) (h : j < n) : (marks_Mill k n).getD j zMill = mkMill k j := by
  simp [marks_Mill, List.getD_eq_getElem?_getD, h]

set_option maxHeartbeats 800000 in
theorem markMillS_x (lo hi : Nat) (A : Option Addr) (n c : Nat) (xs : List RMill) (k0 : Int) (w : World) (h1 : 0 ≤ k0) (h2 : k0 ≤ 140737488355328) (_hh : hi ≤ w.heap.size) (hn : n ≤ 1048576) (ha : Wr_Mill w lo A n xs) (hL : Lt hi A n) :
    Calls Try.prog 71 #[.slice A n c, .int .i64 k0] w fun e w' => e = .returned (.int .i64 (k0 + 4 * (n : Int))) ∧ Chg lo hi w w' ∧ Wr_Mill w' lo A n (marks_Mill k0 n) := by
  by_cases hz : n = 0
  · subst hz
    go_enter Try.func71, Try.ntmps71
    go_wp2
    go_loop [1, 5] (fun q i => i = .int .i64 0 ∧ q = .int .i64 k0) (fun _ _ => 0)
    case atStart => exact ⟨rfl, rfl⟩
    case round =>
      obtain ⟨rfl, rfl⟩ := hrel
      go_wp2
      go_ret
      exact ⟨ret_int (by simp), Chg.refl _ _ _, ⟨rfl, fun h => absurd h (by omega)⟩⟩
  · obtain ⟨b, o, rfl, h0, hbB, hc⟩ := ha.2 (by omega)
    have hlen := ha.len
    have HL := Lib.hid hlen
    have HC : Hid (HalfR encMill 4 n b o (mkMill k0) (fun j => xs.getD j zMill) 0 w) := by
      intro j hj i hi
      show _ = (encMill (if j < 0 then mkMill k0 j else xs.getD j zMill))[i]? ∧ _
      rw [if_neg (Nat.not_lt_zero j), getDMill (by omega), ← flat_at encMill_len xs j i (by omega) hi]
      have := hc (j * 4 + i) (by rw [csMill_len]; omega)
      rw [← Nat.add_assoc] at this
      exact this
    have hbh : b < hi := hL (by omega) b rfl
    clear hc ha hL hlen
    go_enter Try.func71, Try.ntmps71
    go_wp2
    go_loopw [1, 5] (fun q i wr => ∃ k : Nat, k ≤ n ∧ i = .int .i64 (k : Int) ∧ q = .int .i64 (k0 + 4 * (k : Int)) ∧ w.grownBy wr (some b) ∧ HalfR encMill 4 n b o (mkMill k0) (fun j => xs.getD j zMill) k wr) (fun _ i _ => n - (intOf i).toNat)
    case atStart => exact ⟨0, by omega, rfl, by simp, World.grownBy.refl _ _, HC.out⟩
    case round =>
      obtain ⟨k, hk, rfl, rfl, hg, hr⟩ := hrel
      have HR := Lib.hid hr
      by_cases hlt : k < n
      · obtain ⟨m0, n0⟩ := hr k hlt 0 (by omega); rw [if_neg (Nat.lt_irrefl k)] at m0; simp only [encMill, Nat.add_zero] at m0 n0; obtain ⟨m1, n1⟩ := hr k hlt 1 (by omega); rw [if_neg (Nat.lt_irrefl k)] at m1; simp only [encMill, Nat.add_zero] at m1 n1; obtain ⟨m2, n2⟩ := hr k hlt 2 (by omega); rw [if_neg (Nat.lt_irrefl k)] at m2; simp only [encMill, Nat.add_zero] at m2 n2; obtain ⟨m3, n3⟩ := hr k hlt 3 (by omega); rw [if_neg (Nat.lt_irrefl k)] at m3; simp only [encMill, Nat.add_zero] at m3 n3
        clear hr
        go_wp2
        go_roundw
        case rel => exact ⟨k + 1, by omega, by go_num, by go_num, hg.trans (putC_gb [.int .i64 (k0 + 4 * (k : Int)), .int .i64 (k0 + 4 * (k : Int) + 1), .int .i64 (k0 + 4 * (k : Int) + 1 + 1), .int .i64 (k0 + 4 * (k : Int) + 1 + 1 + 1)] wr b (o + k * 4)), HR.out.step encMill_len hlt [.int .i64 (k0 + 4 * (k : Int)), .int .i64 (k0 + 4 * (k : Int) + 1), .int .i64 (k0 + 4 * (k : Int) + 1 + 1), .int .i64 (k0 + 4 * (k : Int) + 1 + 1 + 1)] (by simp [encMill, mkMill] <;> omega)⟩
        case measure => simp [intOf]; omega
      · clear hr
        go_wp2
        go_ret
        obtain rfl : k = n := by omega
        refine ⟨rfl, ?_, HR.out.done encMill_len (marks_Mill_len _ _) (fun j hj => by rw [← getDMill hj, marks_Mill_at _ _ _ (by rw [marks_Mill_len] at hj; exact hj)]) h0 (Nat.lt_of_lt_of_le hbB hg.size)⟩
        exact ⟨hg.os, hg.tape, hg.output, hg.size, fun i hi' hl => hg.block i hi' (fun e => by injection e with e; omega)⟩

theorem guardMill : Try.prog.eqGuardType Try.prog.depth 25 = false := by kernel_rfl
theorem eqlMill (x0 : Int) (x1 : Int) (x2 : Int) (x3 : Int) (y0 : Int) (y1 : Int) (y2 : Int) (y3 : Int) (v : Bool) (hv : v = decide ((⟨x0, x1, x2, x3⟩ : RMill) = ⟨y0, y1, y2, y3⟩)) (w : World) :
    (binOp .eql 25 (.agg #[.int .i64 x0, .int .i64 x1, .int .i64 x2, .int .i64 x3]) (.agg #[.int .i64 y0, .int .i64 y1, .int .i64 y2, .int .i64 y3])).run Try.prog w = .ok (.bool v) w := by
  have hS : Try.prog.underlying 25 = some (.struct (Try.prog.fieldsOf 25)) := by kernel_rfl
  have hp : Try.prog.stoodInHeld 25 = false := by kernel_rfl
  rw [run_eql_struct, show (10000 : Nat) = 9999 + 1 from rfl, run_equalIn_agg w 9999 25 _ _ hS hp]
  simp only [Program.fieldsOf, Try.underlying25]
  go_simp
  subst hv
  by_cases h0 : x0 = y0 <;> by_cases h1 : x1 = y1 <;> by_cases h2 : x2 = y2 <;> by_cases h3 : x3 = y3 <;> simp [h0, h1, h2, h3]
theorem neqMill (x0 : Int) (x1 : Int) (x2 : Int) (x3 : Int) (y0 : Int) (y1 : Int) (y2 : Int) (y3 : Int) (v : Bool) (hv : v = !decide ((⟨x0, x1, x2, x3⟩ : RMill) = ⟨y0, y1, y2, y3⟩)) (w : World) :
    (binOp .neq 25 (.agg #[.int .i64 x0, .int .i64 x1, .int .i64 x2, .int .i64 x3]) (.agg #[.int .i64 y0, .int .i64 y1, .int .i64 y2, .int .i64 y3])).run Try.prog w = .ok (.bool v) w := by
  have hS : Try.prog.underlying 25 = some (.struct (Try.prog.fieldsOf 25)) := by kernel_rfl
  have hp : Try.prog.stoodInHeld 25 = false := by kernel_rfl
  rw [run_neq_struct, show (10000 : Nat) = 9999 + 1 from rfl, run_equalIn_agg w 9999 25 _ _ hS hp]
  simp only [Program.fieldsOf, Try.underlying25]
  go_simp
  subst hv
  by_cases h0 : x0 = y0 <;> by_cases h1 : x1 = y1 <;> by_cases h2 : x2 = y2 <;> by_cases h3 : x3 = y3 <;> simp [h0, h1, h2, h3]

end Go.Proofs.Ytlkgbemlagfdjaa
