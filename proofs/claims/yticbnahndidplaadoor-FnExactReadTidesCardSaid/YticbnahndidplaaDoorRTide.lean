/- Records of type Tide, 2 cells each: what a row of them holds; copy, equal, mark, held. -/
import Derived.Test.YticbnahndidplaaDoorRec
import Derived.Deep.RegionHeld3
import Derived.Laws.StructEq
namespace Go.Proofs.YticbnahndidplaaDoor
open Go.RowKit

structure RTide where
  f0 : Int
  f1 : Int
def zTide : RTide := ⟨0, 0⟩
theorem RTide.eq {a b : RTide} (h : a.f0 = b.f0 ∧ a.f1 = b.f1) : a = b := by
  cases a; cases b; simpa using h
instance : DecidableEq RTide := fun a b => decidable_of_iff (a.f0 = b.f0 ∧ a.f1 = b.f1) ⟨RTide.eq, fun h => by subst h; simp⟩
def encTide (x : RTide) : List Value := [.int .i64 x.f0, .int .i64 x.f1]
theorem encTide_len (x : RTide) : (encTide x).length = 2 := rfl
def csTide (xs : List RTide) : List Value := xs.flatMap encTide
theorem csTide_len (xs : List RTide) : (csTide xs).length = xs.length * 2 := flat_len encTide_len xs
theorem csTide_app (xs ys : List RTide) : csTide (xs ++ ys) = csTide xs ++ csTide ys := List.flatMap_append
def okTide (x : RTide) : Prop := (Lit.int .i64 x.f0).wf = true ∧ (Lit.int .i64 x.f1).wf = true
def Wf_Tide (xs : List RTide) : Prop := ∀ x ∈ xs, okTide x
def Rd_Tide (w : World) (B : Nat) (A : Option Addr) (n : Nat) (xs : List RTide) : Prop := RdC w B A n 2 (csTide xs)
def Wr_Tide (w : World) (lo : Nat) (A : Option Addr) (n : Nat) (xs : List RTide) : Prop := WrC w lo A n 2 (csTide xs)
/-- one record -/
def AtTide (w : World) (b o : Nat) (x : RTide) : Prop := w.cell? ⟨b, o, none⟩ = some (.int .i64 x.f0) ∧ w.cell? ⟨b, o + 1, none⟩ = some (.int .i64 x.f1)
def FzTide (w : World) (b o : Nat) : Prop := w.frozen? ⟨b, o, none⟩ = false ∧ w.frozen? ⟨b, o + 1, none⟩ = false
section
variable {w w' : World} {B B' lo lo' hi n : Nat} {A : Option Addr} {xs : List RTide}
theorem Rd_Tide.len (h : Rd_Tide w B A n xs) : xs.length = n := by have := h.1; rw [csTide_len] at this; omega
theorem Wr_Tide.len (h : Wr_Tide w lo A n xs) : xs.length = n := by have := h.1; rw [csTide_len] at this; omega
theorem Rd_Tide.below (h : Rd_Tide w B A n xs) (hb : Below B w w') : Rd_Tide w' B A n xs := RdC.below h hb
theorem Rd_Tide.mono (h : Rd_Tide w B A n xs) (hB' : B ≤ B') : Rd_Tide w B' A n xs := RdC.mono h hB'
theorem Wr_Tide.rd (h : Wr_Tide w lo A n xs) : Rd_Tide w w.heap.size A n xs := WrC.rd h
theorem Wr_Tide.below (h : Wr_Tide w lo A n xs) (hb : Below w.heap.size w w') : Wr_Tide w' lo A n xs := WrC.below h hb
theorem Wr_Tide.abv (h : Wr_Tide w lo A n xs) (hb : Abv lo w w') : Wr_Tide w' lo A n xs := WrC.abv h hb
theorem Wr_Tide.lower (h : Wr_Tide w lo A n xs) (hl : lo' ≤ lo) : Wr_Tide w lo' A n xs := WrC.lower h hl
theorem Wr_Tide.lt (h : Wr_Tide w lo A n xs) : Lt w.heap.size A n := WrC.lt h
theorem Wr_Tide.chg {hi1 lo1 : Nat} (h : Wr_Tide w lo1 A n xs) (hL : Lt hi1 A n) (c : Chg lo hi w w') (hd : hi1 ≤ lo ∨ hi ≤ lo1) : Wr_Tide w' lo1 A n xs := WrC.chg h hL c hd
theorem getDTide {k : Nat} (h : k < xs.length) : xs.getD k zTide = xs[k] := by simp [List.getD_eq_getElem?_getD, h]
theorem Rd_Tide.at (h : Rd_Tide w B A n xs) (hn : 0 < n) : ∃ b off, A = some ⟨b, off, none⟩ ∧ b < B ∧ ∀ k, k < n → AtTide w b (off + k * 2) (xs.getD k zTide) := by
  obtain ⟨b, off, e, hB, hc⟩ := h.2 hn
  have hl := h.len
  refine ⟨b, off, e, hB, fun k hk => ?_⟩
  rw [getDTide (by omega)]
  have g0 := hc (k * 2 + 0) (by rw [csTide_len]; omega)
  rw [csTide, flat_at encTide_len xs k 0 (by omega) (by omega), ← Nat.add_assoc] at g0
  have g1 := hc (k * 2 + 1) (by rw [csTide_len]; omega)
  rw [csTide, flat_at encTide_len xs k 1 (by omega) (by omega), ← Nat.add_assoc] at g1
  exact ⟨g0, g1⟩
theorem Wr_Tide.at (h : Wr_Tide w lo A n xs) (hn : 0 < n) : ∃ b off, A = some ⟨b, off, none⟩ ∧ lo ≤ b ∧ b < w.heap.size ∧ ∀ k, k < n → AtTide w b (off + k * 2) (xs.getD k zTide) ∧ FzTide w b (off + k * 2) := by
  obtain ⟨b, off, e, h0, hB, hc⟩ := h.2 hn
  have hl := h.len
  refine ⟨b, off, e, h0, hB, fun k hk => ?_⟩
  rw [getDTide (by omega)]
  have g0 := hc (k * 2 + 0) (by rw [csTide_len]; omega)
  rw [csTide, flat_at encTide_len xs k 0 (by omega) (by omega), ← Nat.add_assoc] at g0
  have g1 := hc (k * 2 + 1) (by rw [csTide_len]; omega)
  rw [csTide, flat_at encTide_len xs k 1 (by omega) (by omega), ← Nat.add_assoc] at g1
  exact ⟨⟨g0.1, g1.1⟩, g0.2, g1.2⟩
theorem IsCells.rd_Tide {len cap : Nat} (h : IsCells [gInt, gInt] w A len cap) : ∃ xs, Rd_Tide w w.heap.size A len xs ∧ Wf_Tide xs := by
  obtain ⟨xs, h1, _, h2⟩ := h.recs (enc := encTide) okTide (by simp) encTide_len (by
    intro vs hl hg
    match vs, hl with
    | [v0, v1], _ =>
      obtain ⟨q0, e0, p0⟩ := hg 0 (by simp) _ rfl
      simp only [List.getElem_cons_zero, List.getElem_cons_succ] at e0
      subst e0
      obtain ⟨q1, e1, p1⟩ := hg 1 (by simp) _ rfl
      simp only [List.getElem_cons_zero, List.getElem_cons_succ] at e1
      subst e1
      exact ⟨⟨q0, q1⟩, rfl, p0, p1⟩)
  exact ⟨xs, h1, h2⟩
end

set_option maxHeartbeats 400000 in
theorem eqTide_x (x0 : Int) (x1 : Int) (w : World) :
    Calls Tryd.prog 50 #[.agg #[.int .i64 x0, .int .i64 x1], .agg #[.int .i64 x0, .int .i64 x1]] w fun e w' => e = .returned (.bool true) ∧ Below w.heap.size w w' := by
  have e0 : (x0 != x0) = false := by simp
  have e1 : (x1 != x1) = false := by simp
  go_enter Tryd.func50, Tryd.ntmps50
  go_wp2
  go_ret
  exact ⟨rfl, (by repeat (first | assumption | exact Below.refl _ _ | (refine Below.setCell ?_ (by first | omega | (simp; done) | (simp; omega)) _) | apply below_drewN | apply Below.drew | (refine Below.alloc ?_ (by first | omega | (simp; done) | (simp; omega)) _)))⟩

set_option maxHeartbeats 400000 in
theorem eqTideS_x (A B : Option Addr) (n c d : Nat) (xs : List RTide) (w : World) (hn : n ≤ 1048576) (ha : Rd_Tide w w.heap.size A n xs) (hb : Rd_Tide w w.heap.size B n xs) :
    Calls Tryd.prog 18 #[.slice A n c, .slice B n d] w fun e w' => e = .returned (.bool true) ∧ Below w.heap.size w w' := by
  have h0 : ((n : Int) != (n : Int)) = false := by simp
  have HA := Lib.hid ha
  have HB := Lib.hid hb
  clear ha hb
  go_enter Tryd.func18, Tryd.ntmps18
  go_wp2
  go_loopw [5] (fun i wr => ∃ k : Nat, k ≤ n ∧ i = .int .i64 (k : Int) ∧ Below w.heap.size w wr) (fun i _ => n - (intOf i).toNat)
  case atStart => exact ⟨0, by omega, rfl, Below.refl _ _⟩
  case round =>
    obtain ⟨k, hk, rfl, hb⟩ := hrel
    by_cases hlt : k < n
    · obtain ⟨b, o, rfl, hB, hc⟩ := (HA.out.below hb).at (by omega)
      obtain ⟨b', o', rfl, hB', hc'⟩ := (HB.out.below hb).at (by omega)
      have p := hc k hlt
      have p' := hc' k hlt
      clear hc hc'
      generalize xs.getD k zTide = x at p p'
      obtain ⟨y0, y1⟩ := x
      obtain ⟨p0, p1⟩ := p
      obtain ⟨p0', p1'⟩ := p'
      simp only at p0 p0' p1 p1'
      have hsz := hb.size
      have hb1 : b < wr.heap.size := by omega
      have hb2 : b' < wr.heap.size := by omega
      go_wp2_with fail
      go_region_held3 (fun w' => w'.cell? ⟨b, o + k * 2, none⟩ = some (.int .i64 y0) ∧ w'.cell? ⟨b', o' + k * 2, none⟩ = some (.int .i64 y0) ∧ w'.cell? ⟨b, o + k * 2 + 1, none⟩ = some (.int .i64 y1) ∧ w'.cell? ⟨b', o' + k * 2 + 1, none⟩ = some (.int .i64 y1)) (go_keep) (first | (go_at_call 50; refine (eqTide_x _ _ _).mono ?_; rintro e1 W1 ⟨rfl, b1⟩; have d1 : Below w.heap.size w W1 := (by repeat (first | assumption | exact Below.refl _ _ | (refine Below.trans ?_ (b1.mono (by first | omega | (simp; done) | (simp; omega)))) | (refine Below.setCell ?_ (by first | omega | (simp; done) | (simp; omega)) _) | apply below_drewN | apply Below.drew | (refine Below.alloc ?_ (by first | omega | (simp; done) | (simp; omega)) _))); have z0 : W1.cell? ⟨b, o + k * 2, none⟩ = _ := (b1.cell (p := ⟨b, o + k * 2, none⟩) hb1).trans p0; have z0' : W1.cell? ⟨b', o' + k * 2, none⟩ = _ := (b1.cell (p := ⟨b', o' + k * 2, none⟩) hb2).trans p0'; have z1 : W1.cell? ⟨b, o + k * 2 + 1, none⟩ = _ := (b1.cell (p := ⟨b, o + k * 2 + 1, none⟩) hb1).trans p1; have z1' : W1.cell? ⟨b', o' + k * 2 + 1, none⟩ = _ := (b1.cell (p := ⟨b', o' + k * 2 + 1, none⟩) hb2).trans p1'))
      go_wp2
      go_roundw
      case rel => exact ⟨k + 1, by omega, by go_num, d1⟩
      case measure => simp [intOf]; omega
    · go_wp2
      go_ret
      exact ⟨rfl, hb⟩

theorem info_Tide : (Tryd.prog.info? 69).map (fun i => (i.zero, i.size, i.bytes)) = some (some (.agg #[.int .i64 0, .int .i64 0]), 2, 16) := by kernel_rfl

/-- what the marks of a row are -/
def mkTide (k : Int) (j : Nat) : RTide := ⟨k + 2 * (j : Int), k + 2 * (j : Int) + 1⟩
def marks_Tide (k : Int) (n : Nat) : List RTide := (List.range n).map (mkTide k)
theorem marks_Tide_len (k : Int) (n : Nat) : (marks_Tide k n).length = n := by simp [marks_Tide]
theorem marks_Tide_at (k : Int) (n j : Nat) (h : j < n) : (marks_Tide k n).getD j zTide = mkTide k j := by
  simp [marks_Tide, List.getD_eq_getElem?_getD, h]

set_option maxHeartbeats 800000 in
theorem markTideS_x (lo hi : Nat) (A : Option Addr) (n c : Nat) (xs : List RTide) (k0 : Int) (w : World) (h1 : 0 ≤ k0) (h2 : k0 ≤ 140737488355328) (_hh : hi ≤ w.heap.size) (hn : n ≤ 1048576) (ha : Wr_Tide w lo A n xs) (hL : Lt hi A n) :
    Calls Tryd.prog 19 #[.slice A n c, .int .i64 k0] w fun e w' => e = .returned (.int .i64 (k0 + 2 * (n : Int))) ∧ Chg lo hi w w' ∧ Wr_Tide w' lo A n (marks_Tide k0 n) := by
  by_cases hz : n = 0
  · subst hz
    go_enter Tryd.func19, Tryd.ntmps19
    go_wp2
    go_loop [1, 5] (fun q i => i = .int .i64 0 ∧ q = .int .i64 k0) (fun _ _ => 0)
    case atStart => exact ⟨rfl, rfl⟩
    case round =>
      obtain ⟨rfl, rfl⟩ := hrel
      go_wp2
      go_ret
      exact ⟨ret_int (by simp), Chg.refl _ _ _, ⟨rfl, fun h => absurd h (by omega)⟩⟩
  · obtain ⟨b, o, rfl, h0, hbB, hc⟩ := ha.2 (by omega)
    have hlen := ha.len
    have HL := Lib.hid hlen
    have HC : Hid (HalfR encTide 2 n b o (mkTide k0) (fun j => xs.getD j zTide) 0 w) := by
      intro j hj i hi
      show _ = (encTide (if j < 0 then mkTide k0 j else xs.getD j zTide))[i]? ∧ _
      rw [if_neg (Nat.not_lt_zero j), getDTide (by omega), ← flat_at encTide_len xs j i (by omega) hi]
      have := hc (j * 2 + i) (by rw [csTide_len]; omega)
      rw [← Nat.add_assoc] at this
      exact this
    have hbh : b < hi := hL (by omega) b rfl
    clear hc ha hL hlen
    go_enter Tryd.func19, Tryd.ntmps19
    go_wp2
    go_loopw [1, 5] (fun q i wr => ∃ k : Nat, k ≤ n ∧ i = .int .i64 (k : Int) ∧ q = .int .i64 (k0 + 2 * (k : Int)) ∧ w.grownBy wr (some b) ∧ HalfR encTide 2 n b o (mkTide k0) (fun j => xs.getD j zTide) k wr) (fun _ i _ => n - (intOf i).toNat)
    case atStart => exact ⟨0, by omega, rfl, by simp, World.grownBy.refl _ _, HC.out⟩
    case round =>
      obtain ⟨k, hk, rfl, rfl, hg, hr⟩ := hrel
      have HR := Lib.hid hr
      by_cases hlt : k < n
      · obtain ⟨m0, n0⟩ := hr k hlt 0 (by omega); rw [if_neg (Nat.lt_irrefl k)] at m0; simp only [encTide, Nat.add_zero] at m0 n0; obtain ⟨m1, n1⟩ := hr k hlt 1 (by omega); rw [if_neg (Nat.lt_irrefl k)] at m1; simp only [encTide, Nat.add_zero] at m1 n1
        clear hr
        go_wp2
        go_roundw
        case rel => exact ⟨k + 1, by omega, by go_num, by go_num, hg.trans (putC_gb [.int .i64 (k0 + 2 * (k : Int)), .int .i64 (k0 + 2 * (k : Int) + 1)] wr b (o + k * 2)), HR.out.step encTide_len hlt [.int .i64 (k0 + 2 * (k : Int)), .int .i64 (k0 + 2 * (k : Int) + 1)] (by simp [encTide, mkTide] <;> omega)⟩
        case measure => simp [intOf]; omega
      · clear hr
        go_wp2
        go_ret
        obtain rfl : k = n := by omega
        refine ⟨rfl, ?_, HR.out.done encTide_len (marks_Tide_len _ _) (fun j hj => by rw [← getDTide hj, marks_Tide_at _ _ _ (by rw [marks_Tide_len] at hj; exact hj)]) h0 (Nat.lt_of_lt_of_le hbB hg.size)⟩
        exact ⟨hg.os, hg.tape, hg.output, hg.size, fun i hi' hl => hg.block i hi' (fun e => by injection e with e; omega)⟩

set_option maxHeartbeats 400000 in
theorem heldTideS_x (A : Option Addr) (n c : Nat) (k0 : Int) (w : World) (h1 : 0 ≤ k0) (h2 : k0 ≤ 140737488355328) (hn : n ≤ 1048576) (ha : Rd_Tide w w.heap.size A n (marks_Tide k0 n)) :
    Calls Tryd.prog 20 #[.slice A n c, .int .i64 k0] w fun e w' => e = .returned (.int .i64 (k0 + 2 * (n : Int))) ∧ Below w.heap.size w w' := by
  have HA := Lib.hid ha
  clear ha
  go_enter Tryd.func20, Tryd.ntmps20
  go_wp2
  go_loop [1, 5] (fun q i => ∃ k : Nat, k ≤ n ∧ i = .int .i64 (k : Int) ∧ q = .int .i64 (k0 + 2 * (k : Int))) (fun _ i => n - (intOf i).toNat)
  case atStart => exact ⟨0, by omega, rfl, by simp⟩
  case round =>
    obtain ⟨k, hk, rfl, rfl⟩ := hrel
    by_cases hlt : k < n
    · obtain ⟨b, o, rfl, hbB, hc⟩ := HA.out.at (by omega)
      have p := hc k hlt
      clear hc
      rw [marks_Tide_at k0 n k hlt] at p
      obtain ⟨p0, p1⟩ := p
      simp only [mkTide] at p0 p1
      go_wp2
      go_round
      case rel => exact ⟨k + 1, by omega, by go_num, by go_num⟩
      case measure => simp [intOf]; omega
    · go_wp2
      go_ret
      exact ⟨ret_int (by omega), (by repeat (first | assumption | exact Below.refl _ _ | (refine Below.setCell ?_ (by first | omega | (simp; done) | (simp; omega)) _) | apply below_drewN | apply Below.drew | (refine Below.alloc ?_ (by first | omega | (simp; done) | (simp; omega)) _)))⟩

theorem guardTide : Tryd.prog.eqGuardType Tryd.prog.depth 69 = false := by kernel_rfl
theorem eqlTide (x0 : Int) (x1 : Int) (y0 : Int) (y1 : Int) (v : Bool) (hv : v = decide ((⟨x0, x1⟩ : RTide) = ⟨y0, y1⟩)) (w : World) :
    (binOp .eql 69 (.agg #[.int .i64 x0, .int .i64 x1]) (.agg #[.int .i64 y0, .int .i64 y1])).run Tryd.prog w = .ok (.bool v) w := by
  have hS : Tryd.prog.underlying 69 = some (.struct (Tryd.prog.fieldsOf 69)) := by kernel_rfl
  have hp : Tryd.prog.stoodInHeld 69 = false := by kernel_rfl
  rw [run_eql_struct, show (10000 : Nat) = 9999 + 1 from rfl, run_equalIn_agg w 9999 69 _ _ hS hp]
  simp only [Program.fieldsOf, Tryd.underlying69]
  go_simp
  subst hv
  by_cases h0 : x0 = y0 <;> by_cases h1 : x1 = y1 <;> simp [h0, h1]
theorem neqTide (x0 : Int) (x1 : Int) (y0 : Int) (y1 : Int) (v : Bool) (hv : v = !decide ((⟨x0, x1⟩ : RTide) = ⟨y0, y1⟩)) (w : World) :
    (binOp .neq 69 (.agg #[.int .i64 x0, .int .i64 x1]) (.agg #[.int .i64 y0, .int .i64 y1])).run Tryd.prog w = .ok (.bool v) w := by
  have hS : Tryd.prog.underlying 69 = some (.struct (Tryd.prog.fieldsOf 69)) := by kernel_rfl
  have hp : Tryd.prog.stoodInHeld 69 = false := by kernel_rfl
  rw [run_neq_struct, show (10000 : Nat) = 9999 + 1 from rfl, run_equalIn_agg w 9999 69 _ _ hS hp]
  simp only [Program.fieldsOf, Tryd.underlying69]
  go_simp
  subst hv
  by_cases h0 : x0 = y0 <;> by_cases h1 : x1 = y1 <;> simp [h0, h1]

end Go.Proofs.YticbnahndidplaaDoor
