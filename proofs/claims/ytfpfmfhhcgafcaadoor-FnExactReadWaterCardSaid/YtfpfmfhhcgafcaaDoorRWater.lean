/- Records of type Water, 5 cells each: what a row of them holds; copy, equal, mark, held. -/
import Derived.Test.YtfpfmfhhcgafcaaDoorRec
import Derived.Deep.RegionHeld3
import Derived.Laws.StructEq
namespace Go.Proofs.YtfpfmfhhcgafcaaDoor
open Go.RowKit

structure RWater where
  f0 : Int
  f1 : Int
  f2 : Int
  f3 : Int
  f4 : Int
def zWater : RWater := ⟨0, 0, 0, 0, 0⟩
theorem RWater.eq {a b : RWater} (h : a.f0 = b.f0 ∧ a.f1 = b.f1 ∧ a.f2 = b.f2 ∧ a.f3 = b.f3 ∧ a.f4 = b.f4) : a = b := by
  cases a; cases b; simpa using h
instance : DecidableEq RWater := fun a b => decidable_of_iff (a.f0 = b.f0 ∧ a.f1 = b.f1 ∧ a.f2 = b.f2 ∧ a.f3 = b.f3 ∧ a.f4 = b.f4) ⟨RWater.eq, fun h => by subst h; simp⟩
def encWater (x : RWater) : List Value := [.int .i64 x.f0, .int .i64 x.f1, .int .i64 x.f2, .int .i64 x.f3, .int .i64 x.f4]
theorem encWater_len (x : RWater) : (encWater x).length = 5 := rfl
def csWater (xs : List RWater) : List Value := xs.flatMap encWater
theorem csWater_len (xs : List RWater) : (csWater xs).length = xs.length * 5 := flat_len encWater_len xs
theorem csWater_app (xs ys : List RWater) : csWater (xs ++ ys) = csWater xs ++ csWater ys := List.flatMap_append
def okWater (x : RWater) : Prop := (Lit.int .i64 x.f0).wf = true ∧ (Lit.int .i64 x.f1).wf = true ∧ (Lit.int .i64 x.f2).wf = true ∧ (Lit.int .i64 x.f3).wf = true ∧ (Lit.int .i64 x.f4).wf = true
def Wf_Water (xs : List RWater) : Prop := ∀ x ∈ xs, okWater x
def Rd_Water (w : World) (B : Nat) (A : Option Addr) (n : Nat) (xs : List RWater) : Prop := RdC w B A n 5 (csWater xs)
def Wr_Water (w : World) (lo : Nat) (A : Option Addr) (n : Nat) (xs : List RWater) : Prop := WrC w lo A n 5 (csWater xs)
/-- one record -/
def AtWater (w : World) (b o : Nat) (x : RWater) : Prop := w.cell? ⟨b, o, none⟩ = some (.int .i64 x.f0) ∧ w.cell? ⟨b, o + 1, none⟩ = some (.int .i64 x.f1) ∧ w.cell? ⟨b, o + 2, none⟩ = some (.int .i64 x.f2) ∧ w.cell? ⟨b, o + 3, none⟩ = some (.int .i64 x.f3) ∧ w.cell? ⟨b, o + 4, none⟩ = some (.int .i64 x.f4)
def FzWater (w : World) (b o : Nat) : Prop := w.frozen? ⟨b, o, none⟩ = false ∧ w.frozen? ⟨b, o + 1, none⟩ = false ∧ w.frozen? ⟨b, o + 2, none⟩ = false ∧ w.frozen? ⟨b, o + 3, none⟩ = false ∧ w.frozen? ⟨b, o + 4, none⟩ = false
section
variable {w w' : World} {B B' lo lo' hi n : Nat} {A : Option Addr} {xs : List RWater}
theorem Rd_Water.len (h : Rd_Water w B A n xs) : xs.length = n := by have := h.1; rw [csWater_len] at this; omega
theorem Wr_Water.len (h : Wr_Water w lo A n xs) : xs.length = n := by have := h.1; rw [csWater_len] at this; omega
theorem Rd_Water.below (h : Rd_Water w B A n xs) (hb : Below B w w') : Rd_Water w' B A n xs := RdC.below h hb
theorem Rd_Water.mono (h : Rd_Water w B A n xs) (hB' : B ≤ B') : Rd_Water w B' A n xs := RdC.mono h hB'
theorem Wr_Water.rd (h : Wr_Water w lo A n xs) : Rd_Water w w.heap.size A n xs := WrC.rd h
theorem Wr_Water.below (h : Wr_Water w lo A n xs) (hb : Below w.heap.size w w') : Wr_Water w' lo A n xs := WrC.below h hb
theorem Wr_Water.abv (h : Wr_Water w lo A n xs) (hb : Abv lo w w') : Wr_Water w' lo A n xs := WrC.abv h hb
theorem Wr_Water.lower (h : Wr_Water w lo A n xs) (hl : lo' ≤ lo) : Wr_Water w lo' A n xs := WrC.lower h hl
theorem Wr_Water.lt (h : Wr_Water w lo A n xs) : Lt w.heap.size A n := WrC.lt h
theorem Wr_Water.chg {hi1 lo1 : Nat} (h : Wr_Water w lo1 A n xs) (hL : Lt hi1 A n) (c : Chg lo hi w w') (hd : hi1 ≤ lo ∨ hi ≤ lo1) : Wr_Water w' lo1 A n xs := WrC.chg h hL c hd
theorem getDWater {k : Nat} (h : k < xs.length) : xs.getD k zWater = xs[k] := by simp [List.getD_eq_getElem?_getD, h]
theorem Rd_Water.at (h : Rd_Water w B A n xs) (hn : 0 < n) : ∃ b off, A = some ⟨b, off, none⟩ ∧ b < B ∧ ∀ k, k < n → AtWater w b (off + k * 5) (xs.getD k zWater) := by
  obtain ⟨b, off, e, hB, hc⟩ := h.2 hn
  have hl := h.len
  refine ⟨b, off, e, hB, fun k hk => ?_⟩
  rw [getDWater (by omega)]
  have g0 := hc (k * 5 + 0) (by rw [csWater_len]; omega)
  rw [csWater, flat_at encWater_len xs k 0 (by omega) (by omega), ← Nat.add_assoc] at g0
  have g1 := hc (k * 5 + 1) (by rw [csWater_len]; omega)
  rw [csWater, flat_at encWater_len xs k 1 (by omega) (by omega), ← Nat.add_assoc] at g1
  have g2 := hc (k * 5 + 2) (by rw [csWater_len]; omega)
  rw [csWater, flat_at encWater_len xs k 2 (by omega) (by omega), ← Nat.add_assoc] at g2
  have g3 := hc (k * 5 + 3) (by rw [csWater_len]; omega)
  rw [csWater, flat_at encWater_len xs k 3 (by omega) (by omega), ← Nat.add_assoc] at g3
  have g4 := hc (k * 5 + 4) (by rw [csWater_len]; omega)
  rw [csWater, flat_at encWater_len xs k 4 (by omega) (by omega), ← Nat.add_assoc] at g4
  exact ⟨g0, g1, g2, g3, g4⟩
theorem Wr_Water.at (h : Wr_Water w lo A n xs) (hn : 0 < n) : ∃ b off, A = some ⟨b, off, none⟩ ∧ lo ≤ b ∧ b < w.heap.size ∧ ∀ k, k < n → AtWater w b (off + k * 5) (xs.getD k zWater) ∧ FzWater w b (off + k * 5) := by
  obtain ⟨b, off, e, h0, hB, hc⟩ := h.2 hn
  have hl := h.len
  refine ⟨b, off, e, h0, hB, fun k hk => ?_⟩
  rw [getDWater (by omega)]
  have g0 := hc (k * 5 + 0) (by rw [csWater_len]; omega)
  rw [csWater, flat_at encWater_len xs k 0 (by omega) (by omega), ← Nat.add_assoc] at g0
  have g1 := hc (k * 5 + 1) (by rw [csWater_len]; omega)
  rw [csWater, flat_at encWater_len xs k 1 (by omega) (by omega), ← Nat.add_assoc] at g1
  have g2 := hc (k * 5 + 2) (by rw [csWater_len]; omega)
  rw [csWater, flat_at encWater_len xs k 2 (by omega) (by omega), ← Nat.add_assoc] at g2
  have g3 := hc (k * 5 + 3) (by rw [csWater_len]; omega)
  rw [csWater, flat_at encWater_len xs k 3 (by omega) (by omega), ← Nat.add_assoc] at g3
  have g4 := hc (k * 5 + 4) (by rw [csWater_len]; omega)
  rw [csWater, flat_at encWater_len xs k 4 (by omega) (by omega), ← Nat.add_assoc] at g4
  exact ⟨⟨g0.1, g1.1, g2.1, g3.1, g4.1⟩, g0.2, g1.2, g2.2, g3.2, g4.2⟩
theorem IsCells.rd_Water {len cap : Nat} (h : IsCells [gInt, gInt, gInt, gInt, gInt] w A len cap) : ∃ xs, Rd_Water w w.heap.size A len xs ∧ Wf_Water xs := by
  obtain ⟨xs, h1, _, h2⟩ := h.recs (enc := encWater) okWater (by simp) encWater_len (by
    intro vs hl hg
    match vs, hl with
    | [v0, v1, v2, v3, v4], _ =>
      obtain ⟨q0, e0, p0⟩ := hg 0 (by simp) _ rfl
      simp only [List.getElem_cons_zero, List.getElem_cons_succ] at e0
      subst e0
      obtain ⟨q1, e1, p1⟩ := hg 1 (by simp) _ rfl
      simp only [List.getElem_cons_zero, List.getElem_cons_succ] at e1
      subst e1
      obtain ⟨q2, e2, p2⟩ := hg 2 (by simp) _ rfl
      simp only [List.getElem_cons_zero, List.getElem_cons_succ] at e2
      subst e2
      obtain ⟨q3, e3, p3⟩ := hg 3 (by simp) _ rfl
      simp only [List.getElem_cons_zero, List.getElem_cons_succ] at e3
      subst e3
      obtain ⟨q4, e4, p4⟩ := hg 4 (by simp) _ rfl
      simp only [List.getElem_cons_zero, List.getElem_cons_succ] at e4
      subst e4
      exact ⟨⟨q0, q1, q2, q3, q4⟩, rfl, p0, p1, p2, p3, p4⟩)
  exact ⟨xs, h1, h2⟩
end

set_option maxHeartbeats 400000 in
theorem toWater_x (x0 : Int) (x1 : Int) (x2 : Int) (x3 : Int) (x4 : Int) (w : World) :
    Calls Tryd.prog 6 #[.agg #[.int .i64 x0, .int .i64 x1, .int .i64 x2, .int .i64 x3, .int .i64 x4]] w fun e w' => e = .returned (.agg #[.int .i64 x0, .int .i64 x1, .int .i64 x2, .int .i64 x3, .int .i64 x4]) ∧ Below w.heap.size w w' := by
  go_enter Tryd.func6, Tryd.ntmps6
  go_wp2
  exact bodyPost_ret (v := .agg #[.int .i64 x0, .int .i64 x1, .int .i64 x2, .int .i64 x3, .int .i64 x4]) (by simp [results, Tryd.results6, go_sem]) rfl ⟨rfl, (by repeat (first | assumption | exact Below.refl _ _ | (refine Below.setCell ?_ (by first | omega | (simp; done) | (simp; omega)) _) | apply below_drewN | apply Below.drew | (refine Below.alloc ?_ (by first | omega | (simp; done) | (simp; omega)) _)))⟩

set_option maxHeartbeats 400000 in
theorem eqWater_x (x0 : Int) (x1 : Int) (x2 : Int) (x3 : Int) (x4 : Int) (w : World) :
    Calls Tryd.prog 10 #[.agg #[.int .i64 x0, .int .i64 x1, .int .i64 x2, .int .i64 x3, .int .i64 x4], .agg #[.int .i64 x0, .int .i64 x1, .int .i64 x2, .int .i64 x3, .int .i64 x4]] w fun e w' => e = .returned (.bool true) ∧ Below w.heap.size w w' := by
  have e0 : (x0 != x0) = false := by simp
  have e1 : (x1 != x1) = false := by simp
  have e2 : (x2 != x2) = false := by simp
  have e3 : (x3 != x3) = false := by simp
  have e4 : (x4 != x4) = false := by simp
  go_enter Tryd.func10, Tryd.ntmps10
  go_wp2
  go_ret
  exact ⟨rfl, (by repeat (first | assumption | exact Below.refl _ _ | (refine Below.setCell ?_ (by first | omega | (simp; done) | (simp; omega)) _) | apply below_drewN | apply Below.drew | (refine Below.alloc ?_ (by first | omega | (simp; done) | (simp; omega)) _)))⟩

theorem info_Water : (Tryd.prog.info? 25).map (fun i => (i.zero, i.size, i.bytes)) = some (some (.agg #[.int .i64 0, .int .i64 0, .int .i64 0, .int .i64 0, .int .i64 0]), 5, 40) := by kernel_rfl

/-- what the marks of a row are -/
def mkWater (k : Int) (j : Nat) : RWater := ⟨k + 5 * (j : Int), k + 5 * (j : Int) + 1, k + 5 * (j : Int) + 2, k + 5 * (j : Int) + 3, k + 5 * (j : Int) + 4⟩
def marks_Water (k : Int) (n : Nat) : List RWater := (List.range n).map (mkWater k)
theorem marks_Water_len (k : Int) (n : Nat) : (marks_Water k n).length = n := by simp [marks_Water]
theorem marks_Water_at (k : Int) (n j : Nat) (h : j < n) : (marks_Water k n).getD j zWater = mkWater k j := by
  simp [marks_Water, List.getD_eq_getElem?_getD, h]

theorem guardWater : Tryd.prog.eqGuardType Tryd.prog.depth 25 = false := by kernel_rfl
theorem eqlWater (x0 : Int) (x1 : Int) (x2 : Int) (x3 : Int) (x4 : Int) (y0 : Int) (y1 : Int) (y2 : Int) (y3 : Int) (y4 : Int) (v : Bool) (hv : v = decide ((⟨x0, x1, x2, x3, x4⟩ : RWater) = ⟨y0, y1, y2, y3, y4⟩)) (w : World) :
    (binOp .eql 25 (.agg #[.int .i64 x0, .int .i64 x1, .int .i64 x2, .int .i64 x3, .int .i64 x4]) (.agg #[.int .i64 y0, .int .i64 y1, .int .i64 y2, .int .i64 y3, .int .i64 y4])).run Tryd.prog w = .ok (.bool v) w := by
  have hS : Tryd.prog.underlying 25 = some (.struct (Tryd.prog.fieldsOf 25)) := by kernel_rfl
  have hp : Tryd.prog.stoodInHeld 25 = false := by kernel_rfl
  rw [run_eql_struct, show (10000 : Nat) = 9999 + 1 from rfl, run_equalIn_agg w 9999 25 _ _ hS hp]
  simp only [Program.fieldsOf, Tryd.underlying25]
  go_simp
  subst hv
  by_cases h0 : x0 = y0 <;> by_cases h1 : x1 = y1 <;> by_cases h2 : x2 = y2 <;> by_cases h3 : x3 = y3 <;> by_cases h4 : x4 = y4 <;> simp [h0, h1, h2, h3, h4]
theorem neqWater (x0 : Int) (x1 : Int) (x2 : Int) (x3 : Int) (x4 : Int) (y0 : Int) (y1 : Int) (y2 : Int) (y3 : Int) (y4 : Int) (v : Bool) (hv : v = !decide ((⟨x0, x1, x2, x3, x4⟩ : RWater) = ⟨y0, y1, y2, y3, y4⟩)) (w : World) :
    (binOp .neq 25 (.agg #[.int .i64 x0, .int .i64 x1, .int .i64 x2, .int .i64 x3, .int .i64 x4]) (.agg #[.int .i64 y0, .int .i64 y1, .int .i64 y2, .int .i64 y3, .int .i64 y4])).run Tryd.prog w = .ok (.bool v) w := by
  have hS : Tryd.prog.underlying 25 = some (.struct (Tryd.prog.fieldsOf 25)) := by kernel_rfl
  have hp : Tryd.prog.stoodInHeld 25 = false := by kernel_rfl
  rw [run_neq_struct, show (10000 : Nat) = 9999 + 1 from rfl, run_equalIn_agg w 9999 25 _ _ hS hp]
  simp only [Program.fieldsOf, Tryd.underlying25]
  go_simp
  subst hv
  by_cases h0 : x0 = y0 <;> by_cases h1 : x1 = y1 <;> by_cases h2 : x2 = y2 <;> by_cases h3 : x3 = y3 <;> by_cases h4 : x4 = y4 <;> simp [h0, h1, h2, h3, h4]

end Go.Proofs.YtfpfmfhhcgafcaaDoor
