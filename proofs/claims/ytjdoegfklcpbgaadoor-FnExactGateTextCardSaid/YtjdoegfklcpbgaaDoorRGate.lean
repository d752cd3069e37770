/- Records of type Gate, 3 cells each: what a row of them holds; copy, equal, mark, held. -/
import Derived.Test.YtjdoegfklcpbgaaDoorRec
import Derived.Deep.RegionHeld3
import Derived.Laws.StructEq
namespace Go.Proofs.YtjdoegfklcpbgaaDoor
open Go.RowKit

structure RGate where
  f0 : Bool
  f1 : Int
  f2 : Int
def zGate : RGate := ⟨false, 0, 0⟩
theorem RGate.eq {a b : RGate} (h : a.f0 = b.f0 ∧ a.f1 = b.f1 ∧ a.f2 = b.f2) : a = b := by
  cases a; cases b; simpa using h
instance : DecidableEq RGate := fun a b => decidable_of_iff (a.f0 = b.f0 ∧ a.f1 = b.f1 ∧ a.f2 = b.f2) ⟨RGate.eq, fun h => by subst h; simp⟩
def encGate (x : RGate) : List Value := [.bool x.f0, .int .i64 x.f1, .int .i64 x.f2]
theorem encGate_len (x : RGate) : (encGate x).length = 3 := rfl
def csGate (xs : List RGate) : List Value := xs.flatMap encGate
theorem csGate_len (xs : List RGate) : (csGate xs).length = xs.length * 3 := flat_len encGate_len xs
theorem csGate_app (xs ys : List RGate) : csGate (xs ++ ys) = csGate xs ++ csGate ys := List.flatMap_append
def okGate (x : RGate) : Prop := True ∧ (Lit.int .i64 x.f1).wf = true ∧ (Lit.int .i64 x.f2).wf = true
def Wf_Gate (xs : List RGate) : Prop := ∀ x ∈ xs, okGate x
def Rd_Gate (w : World) (B : Nat) (A : Option Addr) (n : Nat) (xs : List RGate) : Prop := RdC w B A n 3 (csGate xs)
def Wr_Gate (w : World) (lo : Nat) (A : Option Addr) (n : Nat) (xs : List RGate) : Prop := WrC w lo A n 3 (csGate xs)
/-- one record -/
def AtGate (w : World) (b o : Nat) (x : RGate) : Prop := w.cell? ⟨b, o, none⟩ = some (.bool x.f0) ∧ w.cell? ⟨b, o + 1, none⟩ = some (.int .i64 x.f1) ∧ w.cell? ⟨b, o + 2, none⟩ = some (.int .i64 x.f2)
def FzGate (w : World) (b o : Nat) : Prop := w.frozen? ⟨b, o, none⟩ = false ∧ w.frozen? ⟨b, o + 1, none⟩ = false ∧ w.frozen? ⟨b, o + 2, none⟩ = false
section
variable {w w' : World} {B B' lo lo' hi n : Nat} {A : Option Addr} {xs : List RGate}
theorem Rd_Gate.len (h : Rd_Gate w B A n xs) : xs.length = n := by have := h.1; rw [csGate_len] at this; omega
theorem Wr_Gate.len (h : Wr_Gate w lo A n xs) : xs.length = n := by have := h.1; rw [csGate_len] at this; omega
theorem Rd_Gate.below (h : Rd_Gate w B A n xs) (hb : Below B w w') : Rd_Gate w' B A n xs := RdC.below h hb
theorem Rd_Gate.mono (h : Rd_Gate w B A n xs) (hB' : B ≤ B') : Rd_Gate w B' A n xs := RdC.mono h hB'
theorem Wr_Gate.rd (h : Wr_Gate w lo A n xs) : Rd_Gate w w.heap.size A n xs := WrC.rd h
theorem Wr_Gate.below (h : Wr_Gate w lo A n xs) (hb : Below w.heap.size w w') : Wr_Gate w' lo A n xs := WrC.below h hb
theorem Wr_Gate.abv (h : Wr_Gate w lo A n xs) (hb : Abv lo w w') : Wr_Gate w' lo A n xs := WrC.abv h hb
theorem Wr_Gate.lower (h : Wr_Gate w lo A n xs) (hl : lo' ≤ lo) : Wr_Gate w lo' A n xs := WrC.lower h hl
theorem Wr_Gate.lt (h : Wr_Gate w lo A n xs) : Lt w.heap.size A n := WrC.lt h
theorem Wr_Gate.chg {hi1 lo1 : Nat} (h : Wr_Gate w lo1 A n xs) (hL : Lt hi1 A n) (c : Chg lo hi w w') (hd : hi1 ≤ lo ∨ hi ≤ lo1) : Wr_Gate w' lo1 A n xs := WrC.chg h hL c hd
theorem getDGate {k : Nat} (h : k < xs.length) : xs.getD k zGate = xs[k] := by simp [List.getD_eq_getElem?_getD, h]
theorem Rd_Gate.at (h : Rd_Gate w B A n xs) (hn : 0 < n) : ∃ b off, A = some ⟨b, off, none⟩ ∧ b < B ∧ ∀ k, k < n → AtGate w b (off + k * 3) (xs.getD k zGate) := by
  obtain ⟨b, off, e, hB, hc⟩ := h.2 hn
  have hl := h.len
  refine ⟨b, off, e, hB, fun k hk => ?_⟩
  rw [getDGate (by omega)]
  have g0 := hc (k * 3 + 0) (by rw [csGate_len]; omega)
  rw [csGate, flat_at encGate_len xs k 0 (by omega) (by omega), ← Nat.add_assoc] at g0
  have g1 := hc (k * 3 + 1) (by rw [csGate_len]; omega)
  rw [csGate, flat_at encGate_len xs k 1 (by omega) (by omega), ← Nat.add_assoc] at g1
  have g2 := hc (k * 3 + 2) (by rw [csGate_len]; omega)
  rw [csGate, flat_at encGate_len xs k 2 (by omega) (by omega), ← Nat.add_assoc] at g2
  exact ⟨g0, g1, g2⟩
theorem Wr_Gate.at (h : Wr_Gate w lo A n xs) (hn : 0 < n) : ∃ b off, A = some ⟨b, off, none⟩ ∧ lo ≤ b ∧ b < w.heap.size ∧ ∀ k, k < n → AtGate w b (off + k * 3) (xs.getD k zGate) ∧ FzGate w b (off + k * 3) := by
  obtain ⟨b, off, e, h0, hB, hc⟩ := h.2 hn
  have hl := h.len
  refine ⟨b, off, e, h0, hB, fun k hk => ?_⟩
  rw [getDGate (by omega)]
  have g0 := hc (k * 3 + 0) (by rw [csGate_len]; omega)
  rw [csGate, flat_at encGate_len xs k 0 (by omega) (by omega), ← Nat.add_assoc] at g0
  have g1 := hc (k * 3 + 1) (by rw [csGate_len]; omega)
  rw [csGate, flat_at encGate_len xs k 1 (by omega) (by omega), ← Nat.add_assoc] at g1
  have g2 := hc (k * 3 + 2) (by rw [csGate_len]; omega)
  rw [csGate, flat_at encGate_len xs k 2 (by omega) (by omega), ← Nat.add_assoc] at g2
  exact ⟨⟨g0.1, g1.1, g2.1⟩, g0.2, g1.2, g2.2⟩
theorem IsCells.rd_Gate {len cap : Nat} (h : IsCells [gBool, gInt, gInt] w A len cap) : ∃ xs, Rd_Gate w w.heap.size A len xs ∧ Wf_Gate xs := by
  obtain ⟨xs, h1, _, h2⟩ := h.recs (enc := encGate) okGate (by simp) encGate_len (by
    intro vs hl hg
    match vs, hl with
    | [v0, v1, v2], _ =>
      obtain ⟨q0, e0⟩ := hg 0 (by simp) _ rfl
      simp only [List.getElem_cons_zero, List.getElem_cons_succ] at e0
      subst e0
      obtain ⟨q1, e1, p1⟩ := hg 1 (by simp) _ rfl
      simp only [List.getElem_cons_zero, List.getElem_cons_succ] at e1
      subst e1
      obtain ⟨q2, e2, p2⟩ := hg 2 (by simp) _ rfl
      simp only [List.getElem_cons_zero, List.getElem_cons_succ] at e2
      subst e2
      exact ⟨⟨q0, q1, q2⟩, rfl, trivial, p1, p2⟩)
  exact ⟨xs, h1, h2⟩
end

set_option maxHeartbeats 400000 in
theorem toGate_x (x0 : Bool) (x1 : Int) (x2 : Int) (w : World) :
    Calls Tryd.prog 6 #[.agg #[.bool x0, .int .i64 x1, .int .i64 x2]] w fun e w' => e = .returned (.agg #[.bool x0, .int .i64 x1, .int .i64 x2]) ∧ Below w.heap.size w w' := by
  go_enter Tryd.func6, Tryd.ntmps6
  go_wp2
  exact bodyPost_ret (v := .agg #[.bool x0, .int .i64 x1, .int .i64 x2]) (by simp [results, Tryd.results6, go_sem]) rfl ⟨rfl, (by repeat (first | assumption | exact Below.refl _ _ | (refine Below.setCell ?_ (by first | omega | (simp; done) | (simp; omega)) _) | apply below_drewN | apply Below.drew | (refine Below.alloc ?_ (by first | omega | (simp; done) | (simp; omega)) _)))⟩

theorem info_Gate : (Tryd.prog.info? 25).map (fun i => (i.zero, i.size, i.bytes)) = some (some (.agg #[.bool false, .int .i64 0, .int .i64 0]), 3, 24) := by kernel_rfl


theorem guardGate : Tryd.prog.eqGuardType Tryd.prog.depth 25 = false := by kernel_rfl
theorem eqlGate (x0 : Bool) (x1 : Int) (x2 : Int) (y0 : Bool) (y1 : Int) (y2 : Int) (v : Bool) (hv : v = decide ((⟨x0, x1, x2⟩ : RGate) = ⟨y0, y1, y2⟩)) (w : World) :
    (binOp .eql 25 (.agg #[.bool x0, .int .i64 x1, .int .i64 x2]) (.agg #[.bool y0, .int .i64 y1, .int .i64 y2])).run Tryd.prog w = .ok (.bool v) w := by
  have hS : Tryd.prog.underlying 25 = some (.struct (Tryd.prog.fieldsOf 25)) := by kernel_rfl
  have hp : Tryd.prog.stoodInHeld 25 = false := by kernel_rfl
  rw [run_eql_struct, show (10000 : Nat) = 9999 + 1 from rfl, run_equalIn_agg w 9999 25 _ _ hS hp]
  simp only [Program.fieldsOf, Tryd.underlying25]
  go_simp
  subst hv
  by_cases h0 : x0 = y0 <;> by_cases h1 : x1 = y1 <;> by_cases h2 : x2 = y2 <;> simp [h0, h1, h2]
theorem neqGate (x0 : Bool) (x1 : Int) (x2 : Int) (y0 : Bool) (y1 : Int) (y2 : Int) (v : Bool) (hv : v = !decide ((⟨x0, x1, x2⟩ : RGate) = ⟨y0, y1, y2⟩)) (w : World) :
    (binOp .neq 25 (.agg #[.bool x0, .int .i64 x1, .int .i64 x2]) (.agg #[.bool y0, .int .i64 y1, .int .i64 y2])).run Tryd.prog w = .ok (.bool v) w := by
  have hS : Tryd.prog.underlying 25 = some (.struct (Tryd.prog.fieldsOf 25)) := by kernel_rfl
  have hp : Tryd.prog.stoodInHeld 25 = false := by kernel_rfl
  rw [run_neq_struct, show (10000 : Nat) = 9999 + 1 from rfl, run_equalIn_agg w 9999 25 _ _ hS hp]
  simp only [Program.fieldsOf, Tryd.underlying25]
  go_simp
  subst hv
  by_cases h0 : x0 = y0 <;> by_cases h1 : x1 = y1 <;> by_cases h2 : x2 = y2 <;> simp [h0, h1, h2]

end Go.Proofs.YtjdoegfklcpbgaaDoor
