/- Records of type Spell, 2 cells each: what a row of them holds; copy, equal, mark, held. -/
import Derived.Test.YthpnkkbinffmkaaDoorRec
import Derived.Deep.RegionHeld3
import Derived.Laws.StructEq
namespace Go.Proofs.YthpnkkbinffmkaaDoor
open Go.RowKit

structure RSpell where
  f0 : Int
  f1 : Int
def zSpell : RSpell := ⟨0, 0⟩
theorem RSpell.eq {a b : RSpell} (h : a.f0 = b.f0 ∧ a.f1 = b.f1) : a = b := by
  cases a; cases b; simpa using h
instance : DecidableEq RSpell := fun a b => decidable_of_iff (a.f0 = b.f0 ∧ a.f1 = b.f1) ⟨RSpell.eq, fun h => by subst h; simp⟩
def encSpell (x : RSpell) : List Value := [.int .i64 x.f0, .int .i64 x.f1]
theorem encSpell_len (x : RSpell) : (encSpell x).length = 2 := rfl
def csSpell (xs : List RSpell) : List Value := xs.flatMap encSpell
theorem csSpell_len (xs : List RSpell) : (csSpell xs).length = xs.length * 2 := flat_len encSpell_len xs
theorem csSpell_app (xs ys : List RSpell) : csSpell (xs ++ ys) = csSpell xs ++ csSpell ys := List.flatMap_append
def okSpell (x : RSpell) : Prop := (Lit.int .i64 x.f0).wf = true ∧ (Lit.int .i64 x.f1).wf = true
def Wf_Spell (xs : List RSpell) : Prop := ∀ x ∈ xs, okSpell x
def Rd_Spell (w : World) (B : Nat) (A : Option Addr) (n : Nat) (xs : List RSpell) : Prop := RdC w B A n 2 (csSpell xs)
def Wr_Spell (w : World) (lo : Nat) (A : Option Addr) (n : Nat) (xs : List RSpell) : Prop := WrC w lo A n 2 (csSpell xs)
/-- one record -/
def AtSpell (w : World) (b o : Nat) (x : RSpell) : Prop := w.cell? ⟨b, o, none⟩ = some (.int .i64 x.f0) ∧ w.cell? ⟨b, o + 1, none⟩ = some (.int .i64 x.f1)
def FzSpell (w : World) (b o : Nat) : Prop := w.frozen? ⟨b, o, none⟩ = false ∧ w.frozen? ⟨b, o + 1, none⟩ = false
section
variable {w w' : World} {B B' lo lo' hi n : Nat} {A : Option Addr} {xs : List RSpell}
theorem Rd_Spell.len (h : Rd_Spell w B A n xs) : xs.length = n := by have := h.1; rw [csSpell_len] at this; omega
theorem Wr_Spell.len (h : Wr_Spell w lo A n xs) : xs.length = n := by have := h.1; rw [csSpell_len] at this; omega
theorem Rd_Spell.below (h : Rd_Spell w B A n xs) (hb : Below B w w') : Rd_Spell w' B A n xs := RdC.below h hb
theorem Rd_Spell.mono (h : Rd_Spell w B A n xs) (hB' : B ≤ B') : Rd_Spell w B' A n xs := RdC.mono h hB'
theorem Wr_Spell.rd (h : Wr_Spell w lo A n xs) : Rd_Spell w w.heap.size A n xs := WrC.rd h
theorem Wr_Spell.below (h : Wr_Spell w lo A n xs) (hb : Below w.heap.size w w') : Wr_Spell w' lo A n xs := WrC.below h hb
theorem Wr_Spell.abv (h : Wr_Spell w lo A n xs) (hb : Abv lo w w') : Wr_Spell w' lo A n xs := WrC.abv h hb
theorem Wr_Spell.lower (h : Wr_Spell w lo A n xs) (hl : lo' ≤ lo) : Wr_Spell w lo' A n xs := WrC.lower h hl
theorem Wr_Spell.lt (h : Wr_Spell w lo A n xs) : Lt w.heap.size A n := WrC.lt h
theorem Wr_Spell.chg {hi1 lo1 : Nat} (h : Wr_Spell w lo1 A n xs) (hL : Lt hi1 A n) (c : Chg lo hi w w') (hd : hi1 ≤ lo ∨ hi ≤ lo1) : Wr_Spell w' lo1 A n xs := WrC.chg h hL c hd
theorem getDSpell {k : Nat} (h : k < xs.length) : xs.getD k zSpell = xs[k] := by simp [List.getD_eq_getElem?_getD, h]
theorem Rd_Spell.at (h : Rd_Spell w B A n xs) (hn : 0 < n) : ∃ b off, A = some ⟨b, off, none⟩ ∧ b < B ∧ ∀ k, k < n → AtSpell w b (off + k * 2) (xs.getD k zSpell) := by
  obtain ⟨b, off, e, hB, hc⟩ := h.2 hn
  have hl := h.len
  refine ⟨b, off, e, hB, fun k hk => ?_⟩
  rw [getDSpell (by omega)]
  have g0 := hc (k * 2 + 0) (by rw [csSpell_len]; omega)
  rw [csSpell, flat_at encSpell_len xs k 0 (by omega) (by omega), ← Nat.add_assoc] at g0
  have g1 := hc (k * 2 + 1) (by rw [csSpell_len]; omega)
  rw [csSpell, flat_at encSpell_len xs k 1 (by omega) (by omega), ← Nat.add_assoc] at g1
  exact ⟨g0, g1⟩
theorem Wr_Spell.at (h : Wr_Spell w lo A n xs) (hn : 0 < n) : ∃ b off, A = some ⟨b, off, none⟩ ∧ lo ≤ b ∧ b < w.heap.size ∧ ∀ k, k < n → AtSpell w b (off + k * 2) (xs.getD k zSpell) ∧ FzSpell w b (off + k * 2) := by
  obtain ⟨b, off, e, h0, hB, hc⟩ := h.2 hn
  have hl := h.len
  refine ⟨b, off, e, h0, hB, fun k hk => ?_⟩
  rw [getDSpell (by omega)]
  have g0 := hc (k * 2 + 0) (by rw [csSpell_len]; omega)
  rw [csSpell, flat_at encSpell_len xs k 0 (by omega) (by omega), ← Nat.add_assoc] at g0
  have g1 := hc (k * 2 + 1) (by rw [csSpell_len]; omega)
  rw [csSpell, flat_at encSpell_len xs k 1 (by omega) (by omega), ← Nat.add_assoc] at g1
  exact ⟨⟨g0.1, g1.1⟩, g0.2, g1.2⟩
theorem IsCells.rd_Spell {len cap : Nat} (h : IsCells [gInt, gInt] w A len cap) : ∃ xs, Rd_Spell w w.heap.size A len xs ∧ Wf_Spell xs := by
  obtain ⟨xs, h1, _, h2⟩ := h.recs (enc := encSpell) okSpell (by simp) encSpell_len (by
    intro vs hl hg
    match vs, hl with
    | [v0, v1], _ =>
      obtain ⟨q0, e0, p0⟩ := hg 0 (by simp) _ rfl
      simp only [List.getElem_cons_zero, List.getElem_cons_succ] at e0
      subst e0
      obtain ⟨q1, e1, p1⟩ := hg 1 (by simp) _ rfl
      simp only [List.getElem_cons_zero, List.getElem_cons_succ] at e1
      subst e1
      exact ⟨⟨q0, q1⟩, rfl, p0, p1⟩)
  exact ⟨xs, h1, h2⟩
end

theorem info_Spell : (Tryd.prog.info? 42).map (fun i => (i.zero, i.size, i.bytes)) = some (some (.agg #[.int .i64 0, .int .i64 0]), 2, 16) := by kernel_rfl

/-- what the marks of a row are -/
def mkSpell (k : Int) (j : Nat) : RSpell := ⟨k + 2 * (j : Int), k + 2 * (j : Int) + 1⟩
def marks_Spell (k : Int) (n : Nat) : List RSpell := (List.range n).map (mkSpell k)
theorem marks_Spell_len (k : Int) (n : Nat) : (marks_Spell k n).length = n := by simp [marks_Spell]
theorem marks_Spell_at (k : Int) (n j : Nat) (h : j < n) : (marks_Spell k n).getD j zSpell = mkSpell k j := by
  simp [marks_Spell, List.getD_eq_getElem?_getD, h]

theorem guardSpell : Tryd.prog.eqGuardType Tryd.prog.depth 42 = false := by kernel_rfl
theorem eqlSpell (x0 : Int) (x1 : Int) (y0 : Int) (y1 : Int) (v : Bool) (hv : v = decide ((⟨x0, x1⟩ : RSpell) = ⟨y0, y1⟩)) (w : World) :
    (binOp .eql 42 (.agg #[.int .i64 x0, .int .i64 x1]) (.agg #[.int .i64 y0, .int .i64 y1])).run Tryd.prog w = .ok (.bool v) w := by
  have hS : Tryd.prog.underlying 42 = some (.struct (Tryd.prog.fieldsOf 42)) := by kernel_rfl
  have hp : Tryd.prog.stoodInHeld 42 = false := by kernel_rfl
  rw [run_eql_struct, show (10000 : Nat) = 9999 + 1 from rfl, run_equalIn_agg w 9999 42 _ _ hS hp]
  simp only [Program.fieldsOf, Tryd.underlying42]
  go_simp
  subst hv
  by_cases h0 : x0 = y0 <;> by_cases h1 : x1 = y1 <;> simp [h0, h1]
theorem neqSpell (x0 : Int) (x1 : Int) (y0 : Int) (y1 : Int) (v : Bool) (hv : v = !decide ((⟨x0, x1⟩ : RSpell) = ⟨y0, y1⟩)) (w : World) :
    (binOp .neq 42 (.agg #[.int .i64 x0, .int .i64 x1]) (.agg #[.int .i64 y0, .int .i64 y1])).run Tryd.prog w = .ok (.bool v) w := by
  have hS : Tryd.prog.underlying 42 = some (.struct (Tryd.prog.fieldsOf 42)) := by kernel_rfl
  have hp : Tryd.prog.stoodInHeld 42 = false := by kernel_rfl
  rw [run_neq_struct, show (10000 : Nat) = 9999 + 1 from rfl, run_equalIn_agg w 9999 42 _ _ hS hp]
  simp only [Program.fieldsOf, Tryd.underlying42]
  go_simp
  subst hv
  by_cases h0 : x0 = y0 <;> by_cases h1 : x1 = y1 <;> simp [h0, h1]

end Go.Proofs.YthpnkkbinffmkaaDoor
