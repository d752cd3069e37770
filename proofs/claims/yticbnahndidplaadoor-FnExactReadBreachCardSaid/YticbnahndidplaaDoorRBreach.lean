/- Records of type Breach, 3 cells each: what a row of them holds; copy, equal, mark, held. -/
import Derived.Test.YticbnahndidplaaDoorRec
import Derived.Deep.RegionHeld3
import Derived.Laws.StructEq
namespace Go.Proofs.YticbnahndidplaaDoor
open Go.RowKit

structure RBreach where
  f0 : Int
  f1 : Int
  f2 : Int
def zBreach : RBreach := ⟨0, 0, 0⟩
theorem RBreach.eq {a b : RBreach} (h : a.f0 = b.f0 ∧ a.f1 = b.f1 ∧ a.f2 = b.f2) : a = b := by
  cases a; cases b; simpa using h
instance : DecidableEq RBreach := fun a b => decidable_of_iff (a.f0 = b.f0 ∧ a.f1 = b.f1 ∧ a.f2 = b.f2) ⟨RBreach.eq, fun h => by subst h; simp⟩
def encBreach (x : RBreach) : List Value := [.int .i64 x.f0, .int .i64 x.f1, .int .i64 x.f2]
theorem encBreach_len (x : RBreach) : (encBreach x).length = 3 := rfl
def csBreach (xs : List RBreach) : List Value := xs.flatMap encBreach
theorem csBreach_len (xs : List RBreach) : (csBreach xs).length = xs.length * 3 := flat_len encBreach_len xs
theorem csBreach_app (xs ys : List RBreach) : csBreach (xs ++ ys) = csBreach xs ++ csBreach ys := List.flatMap_append
def okBreach (x : RBreach) : Prop := (Lit.int .i64 x.f0).wf = true ∧ (Lit.int .i64 x.f1).wf = true ∧ (Lit.int .i64 x.f2).wf = true
def Wf_Breach (xs : List RBreach) : Prop := ∀ x ∈ xs, okBreach x
def Rd_Breach (w : World) (B : Nat) (A : Option Addr) (n : Nat) (xs : List RBreach) : Prop := RdC w B A n 3 (csBreach xs)
def Wr_Breach (w : World) (lo : Nat) (A : Option Addr) (n : Nat) (xs : List RBreach) : Prop := WrC w lo A n 3 (csBreach xs)
/-- one record -/
def AtBreach (w : World) (b o : Nat) (x : RBreach) : Prop := w.cell? ⟨b, o, none⟩ = some (.int .i64 x.f0) ∧ w.cell? ⟨b, o + 1, none⟩ = some (.int .i64 x.f1) ∧ w.cell? ⟨b, o + 2, none⟩ = some (.int .i64 x.f2)
def FzBreach (w : World) (b o : Nat) : Prop := w.frozen? ⟨b, o, none⟩ = false ∧ w.frozen? ⟨b, o + 1, none⟩ = false ∧ w.frozen? ⟨b, o + 2, none⟩ = false
section
variable {w w' : World} {B B' lo lo' hi n : Nat} {A : Option Addr} {xs : List RBreach}
theorem Rd_Breach.len (h : Rd_Breach w B A n xs) : xs.length = n := by have := h.1; rw [csBreach_len] at this; omega
theorem Wr_Breach.len (h : Wr_Breach w lo A n xs) : xs.length = n := by have := h.1; rw [csBreach_len] at this; omega
theorem Rd_Breach.below (h : Rd_Breach w B A n xs) (hb : Below B w w') : Rd_Breach w' B A n xs := RdC.below h hb
theorem Rd_Breach.mono (h : Rd_Breach w B A n xs) (hB' : B ≤ B') : Rd_Breach w B' A n xs := RdC.mono h hB'
theorem Wr_Breach.rd (h : Wr_Breach w lo A n xs) : Rd_Breach w w.heap.size A n xs := WrC.rd h
theorem Wr_Breach.below (h : Wr_Breach w lo A n xs) (hb : Below w.heap.size w w') : Wr_Breach w' lo A n xs := WrC.below h hb
theorem Wr_Breach.abv (h : Wr_Breach w lo A n xs) (hb : Abv lo w w') : Wr_Breach w' lo A n xs := WrC.abv h hb
theorem Wr_Breach.lower (h : Wr_Breach w lo A n xs) (hl : lo' ≤ lo) : Wr_Breach w lo' A n xs := WrC.lower h hl
theorem Wr_Breach.lt (h : Wr_Breach w lo A n xs) : Lt w.heap.size A n := WrC.lt h
theorem Wr_Breach.chg {hi1 lo1 : Nat} (h : Wr_Breach w lo1 A n xs) (hL : Lt hi1 A n) (c : Chg lo hi w w') (hd : hi1 ≤ lo ∨ hi ≤ lo1) : Wr_Breach w' lo1 A n xs := WrC.chg h hL c hd
theorem getDBreach {k : Nat} (h : k < xs.length) : xs.getD k zBreach = xs[k] := by simp [List.getD_eq_getElem?_getD, h]
theorem Rd_Breach.at (h : Rd_Breach w B A n xs) (hn : 0 < n) : ∃ b off, A = some ⟨b, off, none⟩ ∧ b < B ∧ ∀ k, k < n → AtBreach w b (off + k * 3) (xs.getD k zBreach) := by
  obtain ⟨b, off, e, hB, hc⟩ := h.2 hn
  have hl := h.len
  refine ⟨b, off, e, hB, fun k hk => ?_⟩
  rw [getDBreach (by omega)]
  have g0 := hc (k * 3 + 0) (by rw [csBreach_len]; omega)
  rw [csBreach, flat_at encBreach_len xs k 0 (by omega) (by omega), ← Nat.add_assoc] at g0
  have g1 := hc (k * 3 + 1) (by rw [csBreach_len]; omega)
  rw [csBreach, flat_at encBreach_len xs k 1 (by omega) (by omega), ← Nat.add_assoc] at g1
  have g2 := hc (k * 3 + 2) (by rw [csBreach_len]; omega)
  rw [csBreach, flat_at encBreach_len xs k 2 (by omega) (by omega), ← Nat.add_assoc] at g2
  exact ⟨g0, g1, g2⟩
theorem Wr_Breach.at (h : Wr_Breach w lo A n xs) (hn : 0 < n) : ∃ b off, A = some ⟨b, off, none⟩ ∧ lo ≤ b ∧ b < w.heap.size ∧ ∀ k, k < n → AtBreach w b (off + k * 3) (xs.getD k zBreach) ∧ FzBreach w b (off + k * 3) := by
  obtain ⟨b, off, e, h0, hB, hc⟩ := h.2 hn
  have hl := h.len
  refine ⟨b, off, e, h0, hB, fun k hk => ?_⟩
  rw [getDBreach (by omega)]
  have g0 := hc (k * 3 + 0) (by rw [csBreach_len]; omega)
  rw [csBreach, flat_at encBreach_len xs k 0 (by omega) (by omega), ← Nat.add_assoc] at g0
  have g1 := hc (k * 3 + 1) (by rw [csBreach_len]; omega)
  rw [csBreach, flat_at encBreach_len xs k 1 (by omega) (by omega), ← Nat.add_assoc] at g1
  have g2 := hc (k * 3 + 2) (by rw [csBreach_len]; omega)
  rw [csBreach, flat_at encBreach_len xs k 2 (by omega) (by omega), ← Nat.add_assoc] at g2
  exact ⟨⟨g0.1, g1.1, g2.1⟩, g0.2, g1.2, g2.2⟩
theorem IsCells.rd_Breach {len cap : Nat} (h : IsCells [gInt, gInt, gInt] w A len cap) : ∃ xs, Rd_Breach w w.heap.size A len xs ∧ Wf_Breach xs := by
  obtain ⟨xs, h1, _, h2⟩ := h.recs (enc := encBreach) okBreach (by simp) encBreach_len (by
    intro vs hl hg
    match vs, hl with
    | [v0, v1, v2], _ =>
      obtain ⟨q0, e0, p0⟩ := hg 0 (by simp) _ rfl
      simp only [List.getElem_cons_zero, List.getElem_cons_succ] at e0
      subst e0
      obtain ⟨q1, e1, p1⟩ := hg 1 (by simp) _ rfl
      simp only [List.getElem_cons_zero, List.getElem_cons_succ] at e1
      subst e1
      obtain ⟨q2, e2, p2⟩ := hg 2 (by simp) _ rfl
      simp only [List.getElem_cons_zero, List.getElem_cons_succ] at e2
      subst e2
      exact ⟨⟨q0, q1, q2⟩, rfl, p0, p1, p2⟩)
  exact ⟨xs, h1, h2⟩
end

set_option maxHeartbeats 400000 in
theorem eqBreach_x (x0 : Int) (x1 : Int) (x2 : Int) (w : World) :
    Calls Tryd.prog 26 #[.agg #[.int .i64 x0, .int .i64 x1, .int .i64 x2], .agg #[.int .i64 x0, .int .i64 x1, .int .i64 x2]] w fun e w' => e = .returned (.bool true) ∧ Below w.heap.size w w' := by
  have e0 : (x0 != x0) = false := by simp
  have e1 : (x1 != x1) = false := by simp
  have e2 : (x2 != x2) = false := by simp
  go_enter Tryd.func26, Tryd.ntmps26
  go_wp2
  go_ret
  exact ⟨rfl, (by repeat (first | assumption | exact Below.refl _ _ | (refine Below.setCell ?_ (by first | omega | (simp; done) | (simp; omega)) _) | apply below_drewN | apply Below.drew | (refine Below.alloc ?_ (by first | omega | (simp; done) | (simp; omega)) _)))⟩

theorem info_Breach : (Tryd.prog.info? 41).map (fun i => (i.zero, i.size, i.bytes)) = some (some (.agg #[.int .i64 0, .int .i64 0, .int .i64 0]), 3, 24) := by kernel_rfl

/-- what the marks of a row are -/
def mkBreach (k : Int) (j : Nat) : RBreach := ⟨k + 3 * (j : Int), k + 3 * (j : Int) + 1, k + 3 * (j : Int) + 2⟩
def marks_Breach (k : Int) (n : Nat) : List RBreach := (List.range n).map (mkBreach k)
theorem marks_Breach_len (k : Int) (n : Nat) : (marks_Breach k n).length = n := by simp [marks_Breach]
theorem marks_Breach_at (k : Int) (n j : Nat) (h : j < n) : (marks_Breach k n).getD j zBreach = mkBreach k j := by
  simp [marks_Breach, List.getD_eq_getElem?_getD, h]

theorem guardBreach : Tryd.prog.eqGuardType Tryd.prog.depth 41 = false := by kernel_rfl
theorem eqlBreach (x0 : Int) (x1 : Int) (x2 : Int) (y0 : Int) (y1 : Int) (y2 : Int) (v : Bool) (hv : v = decide ((⟨x0, x1, x2⟩ : RBreach) = ⟨y0, y1, y2⟩)) (w : World) :
    (binOp .eql 41 (.agg #[.int .i64 x0, .int .i64 x1, .int .i64 x2]) (.agg #[.int .i64 y0, .int .i64 y1, .int .i64 y2])).run Tryd.prog w = .ok (.bool v) w := by
  have hS : Tryd.prog.underlying 41 = some (.struct (Tryd.prog.fieldsOf 41)) := by kernel_rfl
  have hp : Tryd.prog.stoodInHeld 41 = false := by kernel_rfl
  rw [run_eql_struct, show (10000 : Nat) = 9999 + 1 from rfl, run_equalIn_agg w 9999 41 _ _ hS hp]
  simp only [Program.fieldsOf, Tryd.underlying41]
  go_simp
  subst hv
  by_cases h0 : x0 = y0 <;> by_cases h1 : x1 = y1 <;> by_cases h2 : x2 = y2 <;> simp [h0, h1, h2]
theorem neqBreach (x0 : Int) (x1 : Int) (x2 : Int) (y0 : Int) (y1 : Int) (y2 : Int) (v : Bool) (hv : v = !decide ((⟨x0, x1, x2⟩ : RBreach) = ⟨y0, y1, y2⟩)) (w : World) :
    (binOp .neq 41 (.agg #[.int .i64 x0, .int .i64 x1, .int .i64 x2]) (.agg #[.int .i64 y0, .int .i64 y1, .int .i64 y2])).run Tryd.prog w = .ok (.bool v) w := by
  have hS : Tryd.prog.underlying 41 = some (.struct (Tryd.prog.fieldsOf 41)) := by kernel_rfl
  have hp : Tryd.prog.stoodInHeld 41 = false := by kernel_rfl
  rw [run_neq_struct, show (10000 : Nat) = 9999 + 1 from rfl, run_equalIn_agg w 9999 41 _ _ hS hp]
  simp only [Program.fieldsOf, Tryd.underlying41]
  go_simp
  subst hv
  by_cases h0 : x0 = y0 <;> by_cases h1 : x1 = y1 <;> by_cases h2 : x2 = y2 <;> simp [h0, h1, h2]

end Go.Proofs.YticbnahndidplaaDoor
