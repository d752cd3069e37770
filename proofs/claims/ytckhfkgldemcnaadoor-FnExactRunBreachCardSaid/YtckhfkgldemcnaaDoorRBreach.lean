/- Records of type Breach, 3 cells each: what a row of them holds; copy, equal, mark, held. -/
import Derived.Test.YtckhfkgldemcnaaDoorRec
import Derived.Deep.RegionHeld3
import Derived.Laws.StructEq
namespace Go.Proofs.YtckhfkgldemcnaaDoor
open Go.RowKit

structure RBreach where
  f0 : Int
  f1 : Int
  f2 : Int
def zBreach : RBreach := ⟨0, 0, 0⟩
theorem RBreach.eq {a b : RBreach} (h : a.f0 = b.f0 ∧ a.f1 = b.f1 ∧ a.f2 = b.f2) : a = b := by
  cases a; cases b; simpa using h
instance : DecidableEq RBreach := fun a b => decidable_of_iff (a.f0 = b.f0 ∧ a.f1 = b.f1 ∧ a.f2 = b.f2) ⟨RBreach.eq, fun h => by subst h; simp⟩
def encBreach (x : RBreach) : List Value := [.int .i64 x.f0, .int .i64 x.f1, .int .i64 x.f2]
theorem encBreach_len (x : RBreach) : (encBreach x).length = 3 := rfl
def csBreach (xs : List RBreach) : List Value := xs.flatMap encBreach
theorem csBreach_len (xs : List RBreach) : (csBreach xs).length = xs.length * 3 := flat_len encBreach_len xs
theorem csBreach_app (xs ys : List RBreach) : csBreach (xs ++ ys) = csBreach xs ++ csBreach ys := List.flatMap_append
def okBreach (x : RBreach) : Prop := (Lit.int .i64 x.f0).wf = true ∧ (Lit.int .i64 x.f1).wf = true ∧ (Lit.int .i64 x.f2).wf = true
def Wf_Breach (xs : List RBreach) : Prop := ∀ x ∈ xs, okBreach x
def Rd_Breach (w : World) (B : Nat) (A : Option Addr) (n : Nat) (xs : List RBreach) : Prop := RdC w B A n 3 (csBreach xs)
def Wr_Breach (w : World) (lo : Nat) (A : Option Addr) (n : Nat) (xs : List RBreach) : Prop := WrC w lo A n 3 (csBreach xs)
/-- one record -/
def AtBreach (w : World) (b o : Nat) (x : RBreach) : Prop := w.cell? ⟨b, o, none⟩ = some (.int .i64 x.f0) ∧ w.cell? ⟨b, o + 1, none⟩ = some (.int .i64 x.f1) ∧ w.cell? ⟨b, o + 2, none⟩ = some (.int .i64 x.f2)
def FzBreach (w : World) (b o : Nat) : Prop := w.frozen? ⟨b, o, none⟩ = false ∧ w.frozen? ⟨b, o + 1, none⟩ = false ∧ w.frozen? ⟨b, o + 2, none⟩ = false
section
variable {w w' : World} {B B' lo lo' hi n : Nat} {A : Option Addr} {xs : List RBreach}
theorem Rd_Breach.len (h : Rd_Breach w B A n xs) : xs.length = n := by have := h.1; rw [csBreach_len] at this; omega
theorem Wr_Breach.len (h : Wr_Breach w lo A n xs) : xs.length = n := by have := h.1; rw [csBreach_len] at this; omega
theorem Rd_Breach.below (h : Rd_Breach w B A n xs) (hb : Below B w w') : Rd_Breach w' B A n xs := RdC.below h hb
theorem Rd_Breach.mono (h : Rd_Breach w B A n xs) (hB' : B ≤ B') : Rd_Breach w B' A n xs := RdC.mono h hB'
theorem Wr_Breach.rd (h : Wr_Breach w lo A n xs) : Rd_Breach w w.heap.size A n xs := WrC.rd h
theorem Wr_Breach.below (h : Wr_Breach w lo A n xs) (hb : Below w.heap.size w w') : Wr_Breach w' lo A n xs := WrC.below h hb
theorem Wr_Breach.abv (h : Wr_Breach w lo A n xs) (hb : Abv lo w w') : Wr_Breach w' lo A n xs := WrC.abv h hb
theorem Wr_Breach.lower (h : Wr_Breach w lo A n xs) (hl : lo' ≤ lo) : Wr_Breach w lo' A n xs := WrC.lower h hl
theorem Wr_Breach.lt (h : Wr_Breach w lo A n xs) : Lt w.heap.size A n := WrC.lt h
theorem Wr_Breach.chg {hi1 lo1 : Nat} (h : Wr_Breach w lo1 A n xs) (hL : Lt hi1 A n) (c : Chg lo hi w w') (hd : hi1 ≤ lo ∨ hi ≤ lo1) : Wr_Breach w' lo1 A n xs := WrC.chg h hL c hd
theorem getDBreach {k : Nat} (h : k < xs.length) : xs.getD k zBreach = xs[k] := by simp [List.getD_eq_getElem?_getD, h]
theorem Rd_Breach.at (h : Rd_Breach w B A n xs) (hn : 0 < n) : ∃ b off, A = some ⟨b, off, none⟩ ∧ b < B ∧ ∀ k, k < n → AtBreach w b (off + k * 3) (xs.getD k zBreach) := by
  obtain ⟨b, off, e, hB, hc⟩ := h.2 hn
  have hl := h.len
  refine ⟨b, off, e, hB, fun k hk => ?_⟩
  rw [getDBreach (by omega)]
  have g0 := hc (k * 3 + 0) (by rw [csBreach_len]; omega)
  rw [csBreach, flat_at encBreach_len xs k 0 (by omega) (by omega), ← Nat.add_assoc] at g0
  have g1 := hc (k * 3 + 1) (by rw [csBreach_len]; omega)
  rw [csBreach, flat_at encBreach_len xs k 1 (by omega) (by omega), ← Nat.add_assoc] at g1
  have g2 := hc (k * 3 + 2) (by rw [csBreach_len]; omega)
  rw [csBreach, flat_at encBreach_len xs k 2 (by omega) (by omega), ← Nat.add_assoc] at g2
  exact ⟨g0, g1, g2⟩
theorem Wr_Breach.at (h : Wr_Breach w lo A n xs) (hn : 0 < n) : ∃ b off, A = some ⟨b, off, none⟩ ∧ lo ≤ b ∧ b < w.heap.size ∧ ∀ k, k < n → AtBreach w b (off + k * 3) (xs.getD k zBreach) ∧ FzBreach w b (off + k * 3) := by
  obtain ⟨b, off, e, h0, hB, hc⟩ := h.2 hn
  have hl := h.len
  refine ⟨b, off, e, h0, hB, fun k hk => ?_⟩
  rw [getDBreach (by omega)]
  have g0 := hc (k * 3 + 0) (by rw [csBreach_len]; omega)
  rw [csBreach, flat_at encBreach_len xs k 0 (by omega) (by omega), ← Nat.add_assoc] at g0
  have g1 := hc (k * 3 + 1) (by rw [csBreach_len]; omega)
  rw [csBreach, flat_at encBreach_len xs k 1 (by omega) (by omega), ← Nat.add_assoc] at g1
  have g2 := hc (k * 3 + 2) (by rw [csBreach_len]; omega)
  rw [csBreach, flat_at encBreach_len xs k 2 (by omega) (by omega), ← Nat.add_assoc] at g2
  exact ⟨⟨g0.1, g1.1, g2.1⟩, g0.2, g1.2, g2.2⟩
theorem IsCells.rd_Breach {len cap : Nat} (h : IsCells [gInt, gInt, gInt] w A len cap) : ∃ xs, Rd_Breach w w.heap.size A len xs ∧ Wf_Breach xs := by
  obtain ⟨xs, h1, _, h2⟩ := h.recs (enc := encBreach) okBreach (by simp) encBreach_len (by
    intro vs hl hg
    match vs, hl with
    | [v0, v1, v2], _ =>
      obtain ⟨q0, e0, p0⟩ := hg 0 (by simp) _ rfl
      simp only [List.getElem_cons_zero, List.getElem_cons_succ] at e0
      subst e0
      obtain ⟨q1, e1, p1⟩ := hg 1 (by simp) _ rfl
      simp only [List.getElem_cons_zero, List.getElem_cons_succ] at e1
      subst e1
      obtain ⟨q2, e2, p2⟩ := hg 2 (by simp) _ rfl
      simp only [List.getElem_cons_zero, List.getElem_cons_succ] at e2
      subst e2
      exact ⟨⟨q0, q1, q2⟩, rfl, p0, p1, p2⟩)
  exact ⟨xs, h1, h2⟩
end

set_option maxHeartbeats 400000 in
theorem toBreach_x (x0 : Int) (x1 : Int) (x2 : Int) (w : World) :
    Calls Tryd.prog 16 #[.agg #[.int .i64 x0, .int .i64 x1, .int .i64 x2]] w fun e w' => e = .returned (.agg #[.int .i64 x0, .int .i64 x1, .int .i64 x2]) ∧ Below w.heap.size w w' := by
  go_enter Tryd.func16, Tryd.ntmps16
  go_wp2
  exact bodyPost_ret (v := .agg #[.int .i64 x0, .int .i64 x1, .int .i64 x2]) (by simp [results, Tryd.results16, go_sem]) rfl ⟨rfl, (by repeat (first | assumption | exact Below.refl _ _ | (refine Below.setCell ?_ (by first | omega | (simp; done) | (simp; omega)) _) | apply below_drewN | apply Below.drew | (refine Below.alloc ?_ (by first | omega | (simp; done) | (simp; omega)) _)))⟩

set_option maxHeartbeats 400000 in
theorem eqBreach_x (x0 : Int) (x1 : Int) (x2 : Int) (w : World) :
    Calls Tryd.prog 23 #[.agg #[.int .i64 x0, .int .i64 x1, .int .i64 x2], .agg #[.int .i64 x0, .int .i64 x1, .int .i64 x2]] w fun e w' => e = .returned (.bool true) ∧ Below w.heap.size w w' := by
  have e0 : (x0 != x0) = false := by simp
  have e1 : (x1 != x1) = false := by simp
  have e2 : (x2 != x2) = false := by simp
  go_enter Tryd.func23, Tryd.ntmps23
  go_wp2
  go_ret
  exact ⟨rfl, (by repeat (first | assumption | exact Below.refl _ _ | (refine Below.setCell ?_ (by first | omega | (simp; done) | (simp; omega)) _) | apply below_drewN | apply Below.drew | (refine Below.alloc ?_ (by first | omega | (simp; done) | (simp; omega)) _)))⟩

set_option maxHeartbeats 400000 in
theorem eqBreachS_x (A B : Option Addr) (n c d : Nat) (xs : List RBreach) (w : World) (hn : n ≤ 1048576) (ha : Rd_Breach w w.heap.size A n xs) (hb : Rd_Breach w w.heap.size B n xs) :
    Calls Tryd.prog 27 #[.slice A n c, .slice B n d] w fun e w' => e = .returned (.bool true) ∧ Below w.heap.size w w' := by
  have h0 : ((n : Int) != (n : Int)) = false := by simp
  have HA := Lib.hid ha
  have HB := Lib.hid hb
  clear ha hb
  go_enter Tryd.func27, Tryd.ntmps27
  go_wp2
  go_loopw [5] (fun i wr => ∃ k : Nat, k ≤ n ∧ i = .int .i64 (k : Int) ∧ Below w.heap.size w wr) (fun i _ => n - (intOf i).toNat)
  case atStart => exact ⟨0, by omega, rfl, Below.refl _ _⟩
  case round =>
    obtain ⟨k, hk, rfl, hb⟩ := hrel
    by_cases hlt : k < n
    · obtain ⟨b, o, rfl, hB, hc⟩ := (HA.out.below hb).at (by omega)
      obtain ⟨b', o', rfl, hB', hc'⟩ := (HB.out.below hb).at (by omega)
      have p := hc k hlt
      have p' := hc' k hlt
      clear hc hc'
      generalize xs.getD k zBreach = x at p p'
      obtain ⟨y0, y1, y2⟩ := x
      obtain ⟨p0, p1, p2⟩ := p
      obtain ⟨p0', p1', p2'⟩ := p'
      simp only at p0 p0' p1 p1' p2 p2'
      have hsz := hb.size
      have hb1 : b < wr.heap.size := by omega
      have hb2 : b' < wr.heap.size := by omega
      go_wp2_with fail
      go_region_held3 (fun w' => w'.cell? ⟨b, o + k * 3, none⟩ = some (.int .i64 y0) ∧ w'.cell? ⟨b', o' + k * 3, none⟩ = some (.int .i64 y0) ∧ w'.cell? ⟨b, o + k * 3 + 1, none⟩ = some (.int .i64 y1) ∧ w'.cell? ⟨b', o' + k * 3 + 1, none⟩ = some (.int .i64 y1) ∧ w'.cell? ⟨b, o + k * 3 + 2, none⟩ = some (.int .i64 y2) ∧ w'.cell? ⟨b', o' + k * 3 + 2, none⟩ = some (.int .i64 y2)) (go_keep) (first | (go_at_call 23; refine (eqBreach_x _ _ _ _).mono ?_; rintro e1 W1 ⟨rfl, b1⟩; have d1 : Below w.heap.size w W1 := (by repeat (first | assumption | exact Below.refl _ _ | (refine Below.trans ?_ (b1.mono (by first | omega | (simp; done) | (simp; omega)))) | (refine Below.setCell ?_ (by first | omega | (simp; done) | (simp; omega)) _) | apply below_drewN | apply Below.drew | (refine Below.alloc ?_ (by first | omega | (simp; done) | (simp; omega)) _))); have z0 : W1.cell? ⟨b, o + k * 3, none⟩ = _ := (b1.cell (p := ⟨b, o + k * 3, none⟩) hb1).trans p0; have z0' : W1.cell? ⟨b', o' + k * 3, none⟩ = _ := (b1.cell (p := ⟨b', o' + k * 3, none⟩) hb2).trans p0'; have z1 : W1.cell? ⟨b, o + k * 3 + 1, none⟩ = _ := (b1.cell (p := ⟨b, o + k * 3 + 1, none⟩) hb1).trans p1; have z1' : W1.cell? ⟨b', o' + k * 3 + 1, none⟩ = _ := (b1.cell (p := ⟨b', o' + k * 3 + 1, none⟩) hb2).trans p1'; have z2 : W1.cell? ⟨b, o + k * 3 + 2, none⟩ = _ := (b1.cell (p := ⟨b, o + k * 3 + 2, none⟩) hb1).trans p2; have z2' : W1.cell? ⟨b', o' + k * 3 + 2, none⟩ = _ := (b1.cell (p := ⟨b', o' + k * 3 + 2, none⟩) hb2).trans p2'))
      go_wp2
      go_roundw
      case rel => exact ⟨k + 1, by omega, by go_num, d1⟩
      case measure => simp [intOf]; omega
    · go_wp2
      go_ret
      exact ⟨rfl, hb⟩

theorem info_Breach : (Tryd.prog.info? 32).map (fun i => (i.zero, i.size, i.bytes)) = some (some (.agg #[.int .i64 0, .int .i64 0, .int .i64 0]), 3, 24) := by kernel_rfl

/-- what the marks of a row are -/
def mkBreach (k : Int) (j : Nat) : RBreach := ⟨k + 3 * (j : Int), k + 3 * (j : Int) + 1, k + 3 * (j : Int) + 2⟩
def marks_Breach (k : Int) (n : Nat) : List RBreach := (List.range n).map (mkBreach k)
theorem marks_Breach_len (k : Int) (n : Nat) : (marks_Breach k n).length = n := by simp [marks_Breach]
theorem marks_Breach_at (k : Int) (n j : Nat) (h : j < n) : (marks_Breach k n).getD j zBreach = mkBreach k j := by
  simp [marks_Breach, List.getD_eq_getElem?_getD, h]

set_option maxHeartbeats 800000 in
theorem markBreachS_x (lo hi : Nat) (A : Option Addr) (n c : Nat) (xs : List RBreach) (k0 : Int) (w : World) (h1 : 0 ≤ k0) (h2 : k0 ≤ 140737488355328) (_hh : hi ≤ w.heap.size) (hn : n ≤ 1048576) (ha : Wr_Breach w lo A n xs) (hL : Lt hi A n) :
    Calls Tryd.prog 31 #[.slice A n c, .int .i64 k0] w fun e w' => e = .returned (.int .i64 (k0 + 3 * (n : Int))) ∧ Chg lo hi w w' ∧ Wr_Breach w' lo A n (marks_Breach k0 n) := by
  by_cases hz : n = 0
  · subst hz
    go_enter Tryd.func31, Tryd.ntmps31
    go_wp2
    go_loop [1, 5] (fun q i => i = .int .i64 0 ∧ q = .int .i64 k0) (fun _ _ => 0)
    case atStart => exact ⟨rfl, rfl⟩
    case round =>
      obtain ⟨rfl, rfl⟩ := hrel
      go_wp2
      go_ret
      exact ⟨ret_int (by simp), Chg.refl _ _ _, ⟨rfl, fun h => absurd h (by omega)⟩⟩
  · obtain ⟨b, o, rfl, h0, hbB, hc⟩ := ha.2 (by omega)
    have hlen := ha.len
    have HL := Lib.hid hlen
    have HC : Hid (HalfR encBreach 3 n b o (mkBreach k0) (fun j => xs.getD j zBreach) 0 w) := by
      intro j hj i hi
      show _ = (encBreach (if j < 0 then mkBreach k0 j else xs.getD j zBreach))[i]? ∧ _
      rw [if_neg (Nat.not_lt_zero j), getDBreach (by omega), ← flat_at encBreach_len xs j i (by omega) hi]
      have := hc (j * 3 + i) (by rw [csBreach_len]; omega)
      rw [← Nat.add_assoc] at this
      exact this
    have hbh : b < hi := hL (by omega) b rfl
    clear hc ha hL hlen
    go_enter Tryd.func31, Tryd.ntmps31
    go_wp2
    go_loopw [1, 5] (fun q i wr => ∃ k : Nat, k ≤ n ∧ i = .int .i64 (k : Int) ∧ q = .int .i64 (k0 + 3 * (k : Int)) ∧ w.grownBy wr (some b) ∧ HalfR encBreach 3 n b o (mkBreach k0) (fun j => xs.getD j zBreach) k wr) (fun _ i _ => n - (intOf i).toNat)
    case atStart => exact ⟨0, by omega, rfl, by simp, World.grownBy.refl _ _, HC.out⟩
    case round =>
      obtain ⟨k, hk, rfl, rfl, hg, hr⟩ := hrel
      have HR := Lib.hid hr
      by_cases hlt : k < n
      · obtain ⟨m0, n0⟩ := hr k hlt 0 (by omega); rw [if_neg (Nat.lt_irrefl k)] at m0; simp only [encBreach, Nat.add_zero] at m0 n0; obtain ⟨m1, n1⟩ := hr k hlt 1 (by omega); rw [if_neg (Nat.lt_irrefl k)] at m1; simp only [encBreach, Nat.add_zero] at m1 n1; obtain ⟨m2, n2⟩ := hr k hlt 2 (by omega); rw [if_neg (Nat.lt_irrefl k)] at m2; simp only [encBreach, Nat.add_zero] at m2 n2
        clear hr
        go_wp2
        go_roundw
        case rel => exact ⟨k + 1, by omega, by go_num, by go_num, hg.trans (putC_gb [.int .i64 (k0 + 3 * (k : Int)), .int .i64 (k0 + 3 * (k : Int) + 1), .int .i64 (k0 + 3 * (k : Int) + 1 + 1)] wr b (o + k * 3)), HR.out.step encBreach_len hlt [.int .i64 (k0 + 3 * (k : Int)), .int .i64 (k0 + 3 * (k : Int) + 1), .int .i64 (k0 + 3 * (k : Int) + 1 + 1)] (by simp [encBreach, mkBreach] <;> omega)⟩
        case measure => simp [intOf]; omega
      · clear hr
        go_wp2
        go_ret
        obtain rfl : k = n := by omega
        refine ⟨rfl, ?_, HR.out.done encBreach_len (marks_Breach_len _ _) (fun j hj => by rw [← getDBreach hj, marks_Breach_at _ _ _ (by rw [marks_Breach_len] at hj; exact hj)]) h0 (Nat.lt_of_lt_of_le hbB hg.size)⟩
        exact ⟨hg.os, hg.tape, hg.output, hg.size, fun i hi' hl => hg.block i hi' (fun e => by injection e with e; omega)⟩

set_option maxHeartbeats 400000 in
theorem heldBreachS_x (A : Option Addr) (n c : Nat) (k0 : Int) (w : World) (h1 : 0 ≤ k0) (h2 : k0 ≤ 140737488355328) (hn : n ≤ 1048576) (ha : Rd_Breach w w.heap.size A n (marks_Breach k0 n)) :
    Calls Tryd.prog 32 #[.slice A n c, .int .i64 k0] w fun e w' => e = .returned (.int .i64 (k0 + 3 * (n : Int))) ∧ Below w.heap.size w w' := by
  have HA := Lib.hid ha
  clear ha
  go_enter Tryd.func32, Tryd.ntmps32
  go_wp2
  go_loop [1, 5] (fun q i => ∃ k : Nat, k ≤ n ∧ i = .int .i64 (k : Int) ∧ q = .int .i64 (k0 + 3 * (k : Int))) (fun _ i => n - (intOf i).toNat)
  case atStart => exact ⟨0, by omega, rfl, by simp⟩
  case round =>
    obtain ⟨k, hk, rfl, rfl⟩ := hrel
    by_cases hlt : k < n
    · obtain ⟨b, o, rfl, hbB, hc⟩ := HA.out.at (by omega)
      have p := hc k hlt
      clear hc
      rw [marks_Breach_at k0 n k hlt] at p
      obtain ⟨p0, p1, p2⟩ := p
      simp only [mkBreach] at p0 p1 p2
      go_wp2
      go_round
      case rel => exact ⟨k + 1, by omega, by go_num, by go_num⟩
      case measure => simp [intOf]; omega
    · go_wp2
      go_ret
      exact ⟨ret_int (by omega), (by repeat (first | assumption | exact Below.refl _ _ | (refine Below.setCell ?_ (by first | omega | (simp; done) | (simp; omega)) _) | apply below_drewN | apply Below.drew | (refine Below.alloc ?_ (by first | omega | (simp; done) | (simp; omega)) _)))⟩

theorem guardBreach : Tryd.prog.eqGuardType Tryd.prog.depth 32 = false := by kernel_rfl
theorem eqlBreach (x0 : Int) (x1 : Int) (x2 : Int) (y0 : Int) (y1 : Int) (y2 : Int) (v : Bool) (hv : v = decide ((⟨x0, x1, x2⟩ : RBreach) = ⟨y0, y1, y2⟩)) (w : World) :
    (binOp .eql 32 (.agg #[.int .i64 x0, .int .i64 x1, .int .i64 x2]) (.agg #[.int .i64 y0, .int .i64 y1, .int .i64 y2])).run Tryd.prog w = .ok (.bool v) w := by
  have hS : Tryd.prog.underlying 32 = some (.struct (Tryd.prog.fieldsOf 32)) := by kernel_rfl
  have hp : Tryd.prog.stoodInHeld 32 = false := by kernel_rfl
  rw [run_eql_struct, show (10000 : Nat) = 9999 + 1 from rfl, run_equalIn_agg w 9999 32 _ _ hS hp]
  simp only [Program.fieldsOf, Tryd.underlying32]
  go_simp
  subst hv
  by_cases h0 : x0 = y0 <;> by_cases h1 : x1 = y1 <;> by_cases h2 : x2 = y2 <;> simp [h0, h1, h2]
theorem neqBreach (x0 : Int) (x1 : Int) (x2 : Int) (y0 : Int) (y1 : Int) (y2 : Int) (v : Bool) (hv : v = !decide ((⟨x0, x1, x2⟩ : RBreach) = ⟨y0, y1, y2⟩)) (w : World) :
    (binOp .neq 32 (.agg #[.int .i64 x0, .int .i64 x1, .int .i64 x2]) (.agg #[.int .i64 y0, .int .i64 y1, .int .i64 y2])).run Tryd.prog w = .ok (.bool v) w := by
  have hS : Tryd.prog.underlying 32 = some (.struct (Tryd.prog.fieldsOf 32)) := by kernel_rfl
  have hp : Tryd.prog.stoodInHeld 32 = false := by kernel_rfl
  rw [run_neq_struct, show (10000 : Nat) = 9999 + 1 from rfl, run_equalIn_agg w 9999 32 _ _ hS hp]
  simp only [Program.fieldsOf, Tryd.underlying32]
  go_simp
  subst hv
  by_cases h0 : x0 = y0 <;> by_cases h1 : x1 = y1 <;> by_cases h2 : x2 = y2 <;> simp [h0, h1, h2]

end Go.Proofs.YtckhfkgldemcnaaDoor
