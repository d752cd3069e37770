/- Records of type Sluice, 2 cells each: what a row of them holds; copy, equal, mark, held. -/
import Derived.Test.YtcimigaimlojlaaRec
import Derived.Deep.RegionHeld3
import Derived.Laws.StructEq
namespace Go.Proofs.Ytcimigaimlojlaa
open Go.RowKit

structure RSluice where
  f0 : Int
  f1 : Int
def zSluice : RSluice := ⟨0, 0⟩
theorem RSluice.eq {a b : RSluice} (h : a.f0 = b.f0 ∧ a.f1 = b.f1) : a = b := by
  cases a; cases b; simpa using h
instance : DecidableEq RSluice := fun a b => decidable_of_iff (a.f0 = b.f0 ∧ a.f1 = b.f1) ⟨RSluice.eq, fun h => by subst h; simp⟩
def encSluice (x : RSluice) : List Value := [.int .i64 x.f0, .int .i64 x.f1]
theorem encSluice_len (x : RSluice) : (encSluice x).length = 2 := rfl
def csSluice (xs : List RSluice) : List Value := xs.flatMap encSluice
theorem csSluice_len (xs : List RSluice) : (csSluice xs).length = xs.length * 2 := flat_len encSluice_len xs
theorem csSluice_app (xs ys : List RSluice) : csSluice (xs ++ ys) = csSluice xs ++ csSluice ys := List.flatMap_append
def okSluice (x : RSluice) : Prop := (Lit.int .i64 x.f0).wf = true ∧ (Lit.int .i64 x.f1).wf = true
def Wf_Sluice (xs : List RSluice) : Prop := ∀ x ∈ xs, okSluice x
def Rd_Sluice (w : World) (B : Nat) (A : Option Addr) (n : Nat) (xs : List RSluice) : Prop := RdC w B A n 2 (csSluice xs)
def Wr_Sluice (w : World) (lo : Nat) (A : Option Addr) (n : Nat) (xs : List RSluice) : Prop := WrC w lo A n 2 (csSluice xs)
/-- one record -/
def AtSluice (w : World) (b o : Nat) (x : RSluice) : Prop := w.cell? ⟨b, o, none⟩ = some (.int .i64 x.f0) ∧ w.cell? ⟨b, o + 1, none⟩ = some (.int .i64 x.f1)
def FzSluice (w : World) (b o : Nat) : Prop := w.frozen? ⟨b, o, none⟩ = false ∧ w.frozen? ⟨b, o + 1, none⟩ = false
section
variable {w w' : World} {B B' lo lo' hi n : Nat} {A : Option Addr} {xs : List RSluice}
theorem Rd_Sluice.len (h : Rd_Sluice w B A n xs) : xs.length = n := by have := h.1; rw [csSluice_len] at this; omega
theorem Wr_Sluice.len (h : Wr_Sluice w lo A n xs) : xs.length = n := by have := h.1; rw [csSluice_len] at this; omega
theorem Rd_Sluice.below (h : Rd_Sluice w B A n xs) (hb : Below B w w') : Rd_Sluice w' B A n xs := RdC.below h hb
theorem Rd_Sluice.mono (h : Rd_Sluice w B A n xs) (hB' : B ≤ B') : Rd_Sluice w B' A n xs := RdC.mono h hB'
theorem Wr_Sluice.rd (h : Wr_Sluice w lo A n xs) : Rd_Sluice w w.heap.size A n xs := WrC.rd h
theorem Wr_Sluice.below (h : Wr_Sluice w lo A n xs) (hb : Below w.heap.size w w') : Wr_Sluice w' lo A n xs := WrC.below h hb
theorem Wr_Sluice.abv (h : Wr_Sluice w lo A n xs) (hb : Abv lo w w') : Wr_Sluice w' lo A n xs := WrC.abv h hb
theorem Wr_Sluice.lower (h : Wr_Sluice w lo A n xs) (hl : lo' ≤ lo) : Wr_Sluice w lo' A n xs := WrC.lower h hl
theorem Wr_Sluice.lt (h : Wr_Sluice w lo A n xs) : Lt w.heap.size A n := WrC.lt h
theorem Wr_Sluice.chg {hi1 lo1 : Nat} (h : Wr_Sluice w lo1 A n xs) (hL : Lt hi1 A n) (c : Chg lo hi w w') (hd : hi1 ≤ lo ∨ hi ≤ lo1) : Wr_Sluice w' lo1 A n xs := WrC.chg h hL c hd
theorem getDSluice {k : Nat} (h : k < xs.length) : xs.getD k zSluice = xs[k] := by simp [List.getD_eq_getElem?_getD, h]
theorem Rd_Sluice.at (h : Rd_Sluice w B A n xs) (hn : 0 < n) : ∃ b off, A = some ⟨b, off, none⟩ ∧ b < B ∧ ∀ k, k < n → AtSluice w b (off + k * 2) (xs.getD k zSluice) := by
  obtain ⟨b, off, e, hB, hc⟩ := h.2 hn
  have hl := h.len
  refine ⟨b, off, e, hB, fun k hk => ?_⟩
  rw [getDSluice (by omega)]
  have g0 := hc (k * 2 + 0) (by rw [csSluice_len]; omega)
  rw [csSluice, flat_at encSluice_len xs k 0 (by omega) (by omega), ← Nat.add_assoc] at g0
  have g1 := hc (k * 2 + 1) (by rw [csSluice_len]; omega)
  rw [csSluice, flat_at encSluice_len xs k 1 (by omega) (by omega), ← Nat.add_assoc] at g1
  exact ⟨g0, g1⟩
theorem Wr_Sluice.at (h : Wr_Sluice w lo A n xs) (hn : 0 < n) : ∃ b off, A = some ⟨b, off, none⟩ ∧ lo ≤ b ∧ b < w.heap.size ∧ ∀ k, k < n → AtSluice w b (off + k * 2) (xs.getD k zSluice) ∧ FzSluice w b (off + k * 2) := by
  obtain ⟨b, off, e, h0, hB, hc⟩ := h.2 hn
  have hl := h.len
  refine ⟨b, off, e, h0, hB, fun k hk => ?_⟩
  rw [getDSluice (by omega)]
  have g0 := hc (k * 2 + 0) (by rw [csSluice_len]; omega)
  rw [csSluice, flat_at encSluice_len xs k 0 (by omega) (by omega), ← Nat.add_assoc] at g0
  have g1 := hc (k * 2 + 1) (by rw [csSluice_len]; omega)
  rw [csSluice, flat_at encSluice_len xs k 1 (by omega) (by omega), ← Nat.add_assoc] at g1
  exact ⟨⟨g0.1, g1.1⟩, g0.2, g1.2⟩
theorem IsCells.rd_Sluice {len cap : Nat} (h : IsCells [gInt, gInt] w A len cap) : ∃ xs, Rd_Sluice w w.heap.size A len xs ∧ Wf_Sluice xs := by
  obtain ⟨xs, h1, _, h2⟩ := h.recs (enc := encSluice) okSluice (by simp) encSluice_len (by
    intro vs hl hg
    match vs, hl with
    | [v0, v1], _ =>
      obtain ⟨q0, e0, p0⟩ := hg 0 (by simp) _ rfl
      simp only [List.getElem_cons_zero, List.getElem_cons_succ] at e0
      subst e0
      obtain ⟨q1, e1, p1⟩ := hg 1 (by simp) _ rfl
      simp only [List.getElem_cons_zero, List.getElem_cons_succ] at e1
      subst e1
      exact ⟨⟨q0, q1⟩, rfl, p0, p1⟩)
  exact ⟨xs, h1, h2⟩
end

set_option maxHeartbeats 400000 in
theorem toSluice_x (x0 : Int) (x1 : Int) (w : World) :
    Calls Try.prog 10 #[.agg #[.int .i64 x0, .int .i64 x1]] w fun e w' => e = .returned (.agg #[.int .i64 x0, .int .i64 x1]) ∧ Below w.heap.size w w' := by
  go_enter Try.func10, Try.ntmps10
  go_wp2
  exact bodyPost_ret (v := .agg #[.int .i64 x0, .int .i64 x1]) (by simp [results, Try.results10, go_sem]) rfl ⟨rfl, (by repeat (first | assumption | exact Below.refl _ _ | (refine Below.setCell ?_ (by first | omega | (simp; done) | (simp; omega)) _) | apply below_drewN | apply Below.drew | (refine Below.alloc ?_ (by first | omega | (simp; done) | (simp; omega)) _)))⟩

theorem info_Sluice : (Try.prog.info? 26).map (fun i => (i.zero, i.size, i.bytes)) = some (some (.agg #[.int .i64 0, .int .i64 0]), 2, 16) := by kernel_rfl

/-- what the marks of a row are -/
def mkSluice (k : Int) (j : Nat) : RSluice := ⟨k + 2 * (j : Int), k + 2 * (j : Int) + 1⟩
def marks_Sluice (k : Int) (n : Nat) : List RSluice := (List.range n).map (mkSluice k)
theorem marks_Sluice_len (k : Int) (n : Nat) : (marks_Sluice k n).length = n := by simp [marks_Sluice]
theorem marks_Sluice_at (k : Int) (n j : Nat) (h : j < n) : (marks_Sluice k n).getD j zSluice = mkSluice k j := by
  simp [marks_Sluice, List.getD_eq_getElem?_getD, h]

theorem guardSluice : Try.prog.eqGuardType Try.prog.depth 26 = false := by kernel_rfl
theorem eqlSluice (x0 : Int) (x1 : Int) (y0 : Int) (y1 : Int) (v : Bool) (hv : v = decide ((⟨x0, x1⟩ : RSluice) = ⟨y0, y1⟩)) (w : World) :
    (binOp .eql 26 (.agg #[.int .i64 x0, .int .i64 x1]) (.agg #[.int .i64 y0, .int .i64 y1])).run Try.prog w = .ok (.bool v) w := by
  have hS : Try.prog.underlying 26 = some (.struct (Try.prog.fieldsOf 26)) := by kernel_rfl
  have hp : Try.prog.stoodInHeld 26 = false := by kernel_rfl
  rw [run_eql_struct, show (10000 : Nat) = 9999 + 1 from rfl, run_equalIn_agg w 9999 26 _ _ hS hp]
  simp only [Program.fieldsOf, Try.underlying26]
  go_simp
  subst hv
  by_cases h0 : x0 = y0 <;> by_cases h1 : x1 = y1 <;> simp [h0, h1]
theorem neqSluice (x0 : Int) (x1 : Int) (y0 : Int) (y1 : Int) (v : Bool) (hv : v = !decide ((⟨x0, x1⟩ : RSluice) = ⟨y0, y1⟩)) (w : World) :
    (binOp .neq 26 (.agg #[.int .i64 x0, .int .i64 x1]) (.agg #[.int .i64 y0, .int .i64 y1])).run Try.prog w = .ok (.bool v) w := by
  have hS : Try.prog.underlying 26 = some (.struct (Try.prog.fieldsOf 26)) := by kernel_rfl
  have hp : Try.prog.stoodInHeld 26 = false := by kernel_rfl
  rw [run_neq_struct, show (10000 : Nat) = 9999 + 1 from rfl, run_equalIn_agg w 9999 26 _ _ hS hp]
  simp only [Program.fieldsOf, Try.underlying26]
  go_simp
  subst hv
  by_cases h0 : x0 = y0 <;> by_cases h1 : x1 = y1 <;> simp [h0, h1]

end Go.Proofs.Ytcimigaimlojlaa
