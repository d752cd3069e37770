/- Records of type Mill, 4 cells each: what a row of them holds; copy, equal, mark, held. -/
import Derived.Test.YticbnahndidplaaDoorRec
import Derived.Deep.RegionHeld3
import Derived.Laws.StructEq
namespace Go.Proofs.YticbnahndidplaaDoor
open Go.RowKit

structure RMill where
  f0 : Int
  f1 : Int
  f2 : Int
  f3 : Int
def zMill : RMill := ⟨0, 0, 0, 0⟩
theorem RMill.eq {a b : RMill} (h : a.f0 = b.f0 ∧ a.f1 = b.f1 ∧ a.f2 = b.f2 ∧ a.f3 = b.f3) : a = b := by
  cases a; cases b; simpa using h
instance : DecidableEq RMill := fun a b => decidable_of_iff (a.f0 = b.f0 ∧ a.f1 = b.f1 ∧ a.f2 = b.f2 ∧ a.f3 = b.f3) ⟨RMill.eq, fun h => by subst h; simp⟩
def encMill (x : RMill) : List Value := [.int .i64 x.f0, .int .i64 x.f1, .int .i64 x.f2, .int .i64 x.f3]
theorem encMill_len (x : RMill) : (encMill x).length = 4 := rfl
def csMill (xs : List RMill) : List Value := xs.flatMap encMill
theorem csMill_len (xs : List RMill) : (csMill xs).length = xs.length * 4 := flat_len encMill_len xs
theorem csMill_app (xs ys : List RMill) : csMill (xs ++ ys) = csMill xs ++ csMill ys := List.flatMap_append
def okMill (x : RMill) : Prop := (Lit.int .i64 x.f0).wf = true ∧ (Lit.int .i64 x.f1).wf = true ∧ (Lit.int .i64 x.f2).wf = true ∧ (Lit.int .i64 x.f3).wf = true
def Wf_Mill (xs : List RMill) : Prop := ∀ x ∈ xs, okMill x
def Rd_Mill (w : World) (B : Nat) (A : Option Addr) (n : Nat) (xs : List RMill) : Prop := RdC w B A n 4 (csMill xs)
def Wr_Mill (w : World) (lo : Nat) (A : Option Addr) (n : Nat) (xs : List RMill) : Prop := WrC w lo A n 4 (csMill xs)
/-- one record -/
def AtMill (w : World) (b o : Nat) (x : RMill) : Prop := w.cell? ⟨b, o, none⟩ = some (.int .i64 x.f0) ∧ w.cell? ⟨b, o + 1, none⟩ = some (.int .i64 x.f1) ∧ w.cell? ⟨b, o + 2, none⟩ = some (.int .i64 x.f2) ∧ w.cell? ⟨b, o + 3, none⟩ = some (.int .i64 x.f3)
def FzMill (w : World) (b o : Nat) : Prop := w.frozen? ⟨b, o, none⟩ = false ∧ w.frozen? ⟨b, o + 1, none⟩ = false ∧ w.frozen? ⟨b, o + 2, none⟩ = false ∧ w.frozen? ⟨b, o + 3, none⟩ = false
section
variable {w w' : World} {B B' lo lo' hi n : Nat} {A : Option Addr} {xs : List RMill}
theorem Rd_Mill.len (h : Rd_Mill w B A n xs) : xs.length = n := by have := h.1; rw [csMill_len] at this; omega
theorem Wr_Mill.len (h : Wr_Mill w lo A n xs) : xs.length = n := by have := h.1; rw [csMill_len] at this; omega
theorem Rd_Mill.below (h : Rd_Mill w B A n xs) (hb : Below B w w') : Rd_Mill w' B A n xs := RdC.below h hb
theorem Rd_Mill.mono (h : Rd_Mill w B A n xs) (hB' : B ≤ B') : Rd_Mill w B' A n xs := RdC.mono h hB'
theorem Wr_Mill.rd (h : Wr_Mill w lo A n xs) : Rd_Mill w w.heap.size A n xs := WrC.rd h
theorem Wr_Mill.below (h : Wr_Mill w lo A n xs) (hb : Below w.heap.size w w') : Wr_Mill w' lo A n xs := WrC.below h hb
theorem Wr_Mill.abv (h : Wr_Mill w lo A n xs) (hb : Abv lo w w') : Wr_Mill w' lo A n xs := WrC.abv h hb
theorem Wr_Mill.lower (h : Wr_Mill w lo A n xs) (hl : lo' ≤ lo) : Wr_Mill w lo' A n xs := WrC.lower h hl
theorem Wr_Mill.lt (h : Wr_Mill w lo A n xs) : Lt w.heap.size A n := WrC.lt h
theorem Wr_Mill.chg {hi1 lo1 : Nat} (h : Wr_Mill w lo1 A n xs) (hL : Lt hi1 A n) (c : Chg lo hi w w') (hd : hi1 ≤ lo ∨ hi ≤ lo1) : Wr_Mill w' lo1 A n xs := WrC.chg h hL c hd
theorem getDMill {k : Nat} (h : k < xs.length) : xs.getD k zMill = xs[k] := by simp [List.getD_eq_getElem?_getD, h]
theorem Rd_Mill.at (h : Rd_Mill w B A n xs) (hn : 0 < n) : ∃ b off, A = some ⟨b, off, none⟩ ∧ b < B ∧ ∀ k, k < n → AtMill w b (off + k * 4) (xs.getD k zMill) := by
  obtain ⟨b, off, e, hB, hc⟩ := h.2 hn
  have hl := h.len
  refine ⟨b, off, e, hB, fun k hk => ?_⟩
  rw [getDMill (by omega)]
  have g0 := hc (k * 4 + 0) (by rw [csMill_len]; omega)
  rw [csMill, flat_at encMill_len xs k 0 (by omega) (by omega), ← Nat.add_assoc] at g0
  have g1 := hc (k * 4 + 1) (by rw [csMill_len]; omega)
  rw [csMill, flat_at encMill_len xs k 1 (by omega) (by omega), ← Nat.add_assoc] at g1
  have g2 := hc (k * 4 + 2) (by rw [csMill_len]; omega)
  rw [csMill, flat_at encMill_len xs k 2 (by omega) (by omega), ← Nat.add_assoc] at g2
  have g3 := hc (k * 4 + 3) (by rw [csMill_len]; omega)
  rw [csMill, flat_at encMill_len xs k 3 (by omega) (by omega), ← Nat.add_assoc] at g3
  exact ⟨g0, g1, g2, g3⟩
theorem Wr_Mill.at (h : Wr_Mill w lo A n xs) (hn : 0 < n) : ∃ b off, A = some ⟨b, off, none⟩ ∧ lo ≤ b ∧ b < w.heap.size ∧ ∀ k, k < n → AtMill w b (off + k * 4) (xs.getD k zMill) ∧ FzMill w b (off + k * 4) := by
  obtain ⟨b, off, e, h0, hB, hc⟩ := h.2 hn
  have hl := h.len
  refine ⟨b, off, e, h0, hB, fun k hk => ?_⟩
  rw [getDMill (by omega)]
  have g0 := hc (k * 4 + 0) (by rw [csMill_len]; omega)
  rw [csMill, flat_at encMill_len xs k 0 (by omega) (by omega), ← Nat.add_assoc] at g0
  have g1 := hc (k * 4 + 1) (by rw [csMill_len]; omega)
  rw [csMill, flat_at encMill_len xs k 1 (by omega) (by omega), ← Nat.add_assoc] at g1
  have g2 := hc (k * 4 + 2) (by rw [csMill_len]; omega)
  rw [csMill, flat_at encMill_len xs k 2 (by omega) (by omega), ← Nat.add_assoc] at g2
  have g3 := hc (k * 4 + 3) (by rw [csMill_len]; omega)
  rw [csMill, flat_at encMill_len xs k 3 (by omega) (by omega), ← Nat.add_assoc] at g3
  exact ⟨⟨g0.1, g1.1, g2.1, g3.1⟩, g0.2, g1.2, g2.2, g3.2⟩
theorem IsCells.rd_Mill {len cap : Nat} (h : IsCells [gInt, gInt, gInt, gInt] w A len cap) : ∃ xs, Rd_Mill w w.heap.size A len xs ∧ Wf_Mill xs := by
  obtain ⟨xs, h1, _, h2⟩ := h.recs (enc := encMill) okMill (by simp) encMill_len (by
    intro vs hl hg
    match vs, hl with
    | [v0, v1, v2, v3], _ =>
      obtain ⟨q0, e0, p0⟩ := hg 0 (by simp) _ rfl
      simp only [List.getElem_cons_zero, List.getElem_cons_succ] at e0
      subst e0
      obtain ⟨q1, e1, p1⟩ := hg 1 (by simp) _ rfl
      simp only [List.getElem_cons_zero, List.getElem_cons_succ] at e1
      subst e1
      obtain ⟨q2, e2, p2⟩ := hg 2 (by simp) _ rfl
      simp only [List.getElem_cons_zero, List.getElem_cons_succ] at e2
      subst e2
      obtain ⟨q3, e3, p3⟩ := hg 3 (by simp) _ rfl
      simp only [List.getElem_cons_zero, List.getElem_cons_succ] at e3
      subst e3
      exact ⟨⟨q0, q1, q2, q3⟩, rfl, p0, p1, p2, p3⟩)
  exact ⟨xs, h1, h2⟩
end

set_option maxHeartbeats 400000 in
theorem eqMill_x (x0 : Int) (x1 : Int) (x2 : Int) (x3 : Int) (w : World) :
    Calls Tryd.prog 23 #[.agg #[.int .i64 x0, .int .i64 x1, .int .i64 x2, .int .i64 x3], .agg #[.int .i64 x0, .int .i64 x1, .int .i64 x2, .int .i64 x3]] w fun e w' => e = .returned (.bool true) ∧ Below w.heap.size w w' := by
  have e0 : (x0 != x0) = false := by simp
  have e1 : (x1 != x1) = false := by simp
  have e2 : (x2 != x2) = false := by simp
  have e3 : (x3 != x3) = false := by simp
  go_enter Tryd.func23, Tryd.ntmps23
  go_wp2
  go_ret
  exact ⟨rfl, (by repeat (first | assumption | exact Below.refl _ _ | (refine Below.setCell ?_ (by first | omega | (simp; done) | (simp; omega)) _) | apply below_drewN | apply Below.drew | (refine Below.alloc ?_ (by first | omega | (simp; done) | (simp; omega)) _)))⟩

theorem info_Mill : (Tryd.prog.info? 36).map (fun i => (i.zero, i.size, i.bytes)) = some (some (.agg #[.int .i64 0, .int .i64 0, .int .i64 0, .int .i64 0]), 4, 32) := by kernel_rfl

/-- what the marks of a row are -/
def mkMill (k : Int) (j : Nat) : RMill := ⟨k + 4 * (j : Int), k + 4 * (j : Int) + 1, k + 4 * (j : Int) + 2, k + 4 * (j : Int) + 3⟩
def marks_Mill (k : Int) (n : Nat) : List RMill := (List.range n).map (mkMill k)
theorem marks_Mill_len (k : Int) (n : Nat) : (marks_Mill k n).length = n := by simp [marks_Mill]
theorem marks_Mill_at (k : Int) (n j : Nat) (h : j < n) : (marks_Mill k n).getD j zMill = mkMill k j := by
  simp [marks_Mill, List.getD_eq_getElem?_getD, h]

theorem guardMill : Tryd.prog.eqGuardType Tryd.prog.depth 36 = false := by kernel_rfl
theorem eqlMill (x0 : Int) (x1 : Int) (x2 : Int) (x3 : Int) (y0 : Int) (y1 : Int) (y2 : Int) (y3 : Int) (v : Bool) (hv : v = decide ((⟨x0, x1, x2, x3⟩ : RMill) = ⟨y0, y1, y2, y3⟩)) (w : World) :
    (binOp .eql 36 (.agg #[.int .i64 x0, .int .i64 x1, .int .i64 x2, .int .i64 x3]) (.agg #[.int .i64 y0, .int .i64 y1, .int .i64 y2, .int .i64 y3])).run Tryd.prog w = .ok (.bool v) w := by
  have hS : Tryd.prog.underlying 36 = some (.struct (Tryd.prog.fieldsOf 36)) := by kernel_rfl
  have hp : Tryd.prog.stoodInHeld 36 = false := by kernel_rfl
  rw [run_eql_struct, show (10000 : Nat) = 9999 + 1 from rfl, run_equalIn_agg w 9999 36 _ _ hS hp]
  simp only [Program.fieldsOf, Tryd.underlying36]
  go_simp
  subst hv
  by_cases h0 : x0 = y0 <;> by_cases h1 : x1 = y1 <;> by_cases h2 : x2 = y2 <;> by_cases h3 : x3 = y3 <;> simp [h0, h1, h2, h3]
theorem neqMill (x0 : Int) (x1 : Int) (x2 : Int) (x3 : Int) (y0 : Int) (y1 : Int) (y2 : Int) (y3 : Int) (v : Bool) (hv : v = !decide ((⟨x0, x1, x2, x3⟩ : RMill) = ⟨y0, y1, y2, y3⟩)) (w : World) :
    (binOp .neq 36 (.agg #[.int .i64 x0, .int .i64 x1, .int .i64 x2, .int .i64 x3]) (.agg #[.int .i64 y0, .int .i64 y1, .int .i64 y2, .int .i64 y3])).run Tryd.prog w = .ok (.bool v) w := by
  have hS : Tryd.prog.underlying 36 = some (.struct (Tryd.prog.fieldsOf 36)) := by kernel_rfl
  have hp : Tryd.prog.stoodInHeld 36 = false := by kernel_rfl
  rw [run_neq_struct, show (10000 : Nat) = 9999 + 1 from rfl, run_equalIn_agg w 9999 36 _ _ hS hp]
  simp only [Program.fieldsOf, Tryd.underlying36]
  go_simp
  subst hv
  by_cases h0 : x0 = y0 <;> by_cases h1 : x1 = y1 <;> by_cases h2 : x2 = y2 <;> by_cases h3 : x3 = y3 <;> simp [h0, h1, h2, h3]

end Go.Proofs.YticbnahndidplaaDoor
