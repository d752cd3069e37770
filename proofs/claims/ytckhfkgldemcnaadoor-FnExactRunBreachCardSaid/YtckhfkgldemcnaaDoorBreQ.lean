/- Breaches: an hour, of the program. -/
import Derived.Test.YtckhfkgldemcnaaDoorBreI
import Derived.Test.YtckhfkgldemcnaaDoorReg
import Derived.WalkLawsBesides
namespace Go.Proofs.YtckhfkgldemcnaaDoor
open Go.RowKit

/-- the polder's box -/
structure PBox (X : World) (bk : Nat) (a b c : Int) (A0 : Option Addr) (n0 k0 : Nat) (A1 : Option Addr) (n1 k1 : Nat) (ov tv : Value) (h z : Int) : Prop where
  sz : bk < X.heap.size
  cells : X.cell? ⟨bk, 0, none⟩ = some (.int .i64 a) ∧ X.cell? ⟨bk, 1, none⟩ = some (.int .i64 b) ∧ X.cell? ⟨bk, 2, none⟩ = some (.int .i64 c) ∧ X.cell? ⟨bk, 3, none⟩ = some (.slice A0 n0 k0) ∧ X.cell? ⟨bk, 4, none⟩ = some (.slice A1 n1 k1) ∧ X.cell? ⟨bk, 5, none⟩ = some (ov) ∧ X.cell? ⟨bk, 6, none⟩ = some (tv) ∧ X.cell? ⟨bk, 7, none⟩ = some (.int .i64 h) ∧ X.cell? ⟨bk, 8, none⟩ = some (.int .i64 z)
  fz : X.frozen? ⟨bk, 0, none⟩ = false ∧ X.frozen? ⟨bk, 2, none⟩ = false ∧ X.frozen? ⟨bk, 7, none⟩ = false ∧ X.frozen? ⟨bk, 8, none⟩ = false
theorem PBox.below {X V : World} {bk : Nat} {a b c : Int} {A0 : Option Addr} {n0 k0 : Nat} {A1 : Option Addr} {n1 k1 : Nat} {ov tv : Value} {h z : Int} (p : PBox X bk a b c A0 n0 k0 A1 n1 k1 ov tv h z) (hb : Below X.heap.size X V) : PBox V bk a b c A0 n0 k0 A1 n1 k1 ov tv h z := by
  obtain ⟨s, ⟨x0, x1, x2, x3, x4, x5, x6, x7, x8⟩, ⟨f0, f2, f7, f8⟩⟩ := p
  have c : ∀ (o : Nat), V.cell? ⟨bk, o, none⟩ = X.cell? ⟨bk, o, none⟩ := fun o => hb.cell (p := ⟨bk, o, none⟩) s
  have f : ∀ (o : Nat), V.frozen? ⟨bk, o, none⟩ = X.frozen? ⟨bk, o, none⟩ := fun o => hb.frozen (p := ⟨bk, o, none⟩) s
  exact ⟨Nat.lt_of_lt_of_le s hb.size, ⟨(c 0).trans x0, (c 1).trans x1, (c 2).trans x2, (c 3).trans x3, (c 4).trans x4, (c 5).trans x5, (c 6).trans x6, (c 7).trans x7, (c 8).trans x8⟩, ⟨(f 0).trans f0, (f 2).trans f2, (f 7).trans f7, (f 8).trans f8⟩⟩
theorem PBox.drew1 {X V : World} {bk : Nat} {a b c : Int} {A0 : Option Addr} {n0 k0 : Nat} {A1 : Option Addr} {n1 k1 : Nat} {ov tv : Value} {h z : Int} (p : PBox X bk a b c A0 n0 k0 A1 n1 k1 ov tv h z) (hb : Below X.drew.heap.size X.drew V) : PBox V bk a b c A0 n0 k0 A1 n1 k1 ov tv h z := p.below ⟨hb.os, hb.tape, hb.output, hb.size, hb.block⟩
theorem PBox.setA {X : World} {bk : Nat} {a b c : Int} {A0 : Option Addr} {n0 k0 : Nat} {A1 : Option Addr} {n1 k1 : Nat} {ov tv : Value} {h z : Int} (p : PBox X bk a b c A0 n0 k0 A1 n1 k1 ov tv h z) (n : Int) : PBox (X.setCell ⟨bk, 0, none⟩ (.int .i64 n)) bk n b c A0 n0 k0 A1 n1 k1 ov tv h z := by
  obtain ⟨s, ⟨x0, x1, x2, x3, x4, x5, x6, x7, x8⟩, ⟨f0, f2, f7, f8⟩⟩ := p
  have o : ∀ (j : Nat) {y : Value}, j ≠ 0 → X.cell? ⟨bk, j, none⟩ = some y → (X.setCell ⟨bk, 0, none⟩ (.int .i64 n)).cell? ⟨bk, j, none⟩ = some y := fun j y h e => (World.cell?_setCell_other _ _ _ _ (fun e => h (by injection e with _ e2; exact e2.symm))).trans e
  exact ⟨by simpa [World.setCell] using s, ⟨World.cell?_setCell_same _ _ _ x0, o 1 (by omega) x1, o 2 (by omega) x2, o 3 (by omega) x3, o 4 (by omega) x4, o 5 (by omega) x5, o 6 (by omega) x6, o 7 (by omega) x7, o 8 (by omega) x8⟩, ⟨by simpa using f0, by simpa using f2, by simpa using f7, by simpa using f8⟩⟩
theorem PBox.setC {X : World} {bk : Nat} {a b c : Int} {A0 : Option Addr} {n0 k0 : Nat} {A1 : Option Addr} {n1 k1 : Nat} {ov tv : Value} {h z : Int} (p : PBox X bk a b c A0 n0 k0 A1 n1 k1 ov tv h z) (n : Int) : PBox (X.setCell ⟨bk, 2, none⟩ (.int .i64 n)) bk a b n A0 n0 k0 A1 n1 k1 ov tv h z := by
  obtain ⟨s, ⟨x0, x1, x2, x3, x4, x5, x6, x7, x8⟩, ⟨f0, f2, f7, f8⟩⟩ := p
  have o : ∀ (j : Nat) {y : Value}, j ≠ 2 → X.cell? ⟨bk, j, none⟩ = some y → (X.setCell ⟨bk, 2, none⟩ (.int .i64 n)).cell? ⟨bk, j, none⟩ = some y := fun j y h e => (World.cell?_setCell_other _ _ _ _ (fun e => h (by injection e with _ e2; exact e2.symm))).trans e
  exact ⟨by simpa [World.setCell] using s, ⟨o 0 (by omega) x0, o 1 (by omega) x1, World.cell?_setCell_same _ _ _ x2, o 3 (by omega) x3, o 4 (by omega) x4, o 5 (by omega) x5, o 6 (by omega) x6, o 7 (by omega) x7, o 8 (by omega) x8⟩, ⟨by simpa using f0, by simpa using f2, by simpa using f7, by simpa using f8⟩⟩
theorem PBox.setH {X : World} {bk : Nat} {a b c : Int} {A0 : Option Addr} {n0 k0 : Nat} {A1 : Option Addr} {n1 k1 : Nat} {ov tv : Value} {h z : Int} (p : PBox X bk a b c A0 n0 k0 A1 n1 k1 ov tv h z) (n : Int) : PBox (X.setCell ⟨bk, 7, none⟩ (.int .i64 n)) bk a b c A0 n0 k0 A1 n1 k1 ov tv n z := by
  obtain ⟨s, ⟨x0, x1, x2, x3, x4, x5, x6, x7, x8⟩, ⟨f0, f2, f7, f8⟩⟩ := p
  have o : ∀ (j : Nat) {y : Value}, j ≠ 7 → X.cell? ⟨bk, j, none⟩ = some y → (X.setCell ⟨bk, 7, none⟩ (.int .i64 n)).cell? ⟨bk, j, none⟩ = some y := fun j y h e => (World.cell?_setCell_other _ _ _ _ (fun e => h (by injection e with _ e2; exact e2.symm))).trans e
  exact ⟨by simpa [World.setCell] using s, ⟨o 0 (by omega) x0, o 1 (by omega) x1, o 2 (by omega) x2, o 3 (by omega) x3, o 4 (by omega) x4, o 5 (by omega) x5, o 6 (by omega) x6, World.cell?_setCell_same _ _ _ x7, o 8 (by omega) x8⟩, ⟨by simpa using f0, by simpa using f2, by simpa using f7, by simpa using f8⟩⟩
theorem PBox.setZ {X : World} {bk : Nat} {a b c : Int} {A0 : Option Addr} {n0 k0 : Nat} {A1 : Option Addr} {n1 k1 : Nat} {ov tv : Value} {h z : Int} (p : PBox X bk a b c A0 n0 k0 A1 n1 k1 ov tv h z) (n : Int) : PBox (X.setCell ⟨bk, 8, none⟩ (.int .i64 n)) bk a b c A0 n0 k0 A1 n1 k1 ov tv h n := by
  obtain ⟨s, ⟨x0, x1, x2, x3, x4, x5, x6, x7, x8⟩, ⟨f0, f2, f7, f8⟩⟩ := p
  have o : ∀ (j : Nat) {y : Value}, j ≠ 8 → X.cell? ⟨bk, j, none⟩ = some y → (X.setCell ⟨bk, 8, none⟩ (.int .i64 n)).cell? ⟨bk, j, none⟩ = some y := fun j y h e => (World.cell?_setCell_other _ _ _ _ (fun e => h (by injection e with _ e2; exact e2.symm))).trans e
  exact ⟨by simpa [World.setCell] using s, ⟨o 0 (by omega) x0, o 1 (by omega) x1, o 2 (by omega) x2, o 3 (by omega) x3, o 4 (by omega) x4, o 5 (by omega) x5, o 6 (by omega) x6, o 7 (by omega) x7, World.cell?_setCell_same _ _ _ x8⟩, ⟨by simpa using f0, by simpa using f2, by simpa using f7, by simpa using f8⟩⟩

theorem Chg.refl' (lo hi : Nat) (w : World) : Chg lo hi w w := ⟨rfl, rfl, rfl, Nat.le_refl _, fun _ _ _ => rfl⟩
theorem Chg.thenB {lo hi : Nat} {w X V : World} (h : Chg lo hi w X) (hb : Below X.heap.size X V) : Chg lo hi w V :=
  ⟨hb.os.trans h.os, hb.tape.trans h.tape, hb.output.trans h.output, Nat.le_trans h.size hb.size, fun k hk hl => (hb.block k (Nat.lt_of_lt_of_le hk h.size)).trans (h.block k hk hl)⟩
theorem Chg.thenD {lo hi : Nat} {w X V : World} (h : Chg lo hi w X) (hb : Below X.drew.heap.size X.drew V) : Chg lo hi w V := h.thenB ⟨hb.os, hb.tape, hb.output, hb.size, hb.block⟩
theorem Chg.set {lo hi : Nat} {w X : World} (h : Chg lo hi w X) {p : Addr} (h1 : lo ≤ p.block) (h2 : p.block < hi) (u : Value) : Chg lo hi w (X.setCell p u) :=
  ⟨h.os, h.tape, h.output, by simpa [World.setCell] using h.size, fun k hk hl => (Below.heap_setCell _ _ _ _ (by omega)).trans (h.block k hk hl)⟩
theorem Chg.rd {lo hi : Nat} {w X : World} (h : Chg lo hi w X) {A : Option Addr} {n : Nat} {xs : List Int} (r : Rd w lo A n xs) (hs : lo ≤ w.heap.size) : Rd X lo A n xs :=
  ⟨r.1, fun hn => by
    obtain ⟨b, off, e, hB, hc⟩ := r.2 hn
    exact ⟨b, off, e, hB, fun j hj => (h.cell (b := b) (o := off + j) (by omega) (.inl hB)).trans (hc j hj)⟩⟩

set_option maxRecDepth 100000 in
set_option maxHeartbeats 1600000 in
theorem pass_x (bk : Nat) (A0 : Option Addr) (n0 k0 : Nat) (ls : List Int) (A1 : Option Addr) (n1 k1 : Nat) (vs : List Int) (a b c z : Int) (O : Option Addr) (no ko : Nat) (T : Option Addr) (nt kt k : Nat) (w : World) (p : PBox w bk a b c A0 n0 k0 A1 n1 k1 (.slice O no ko) (.slice T nt kt) (k : Int) z) (hno : no ≤ 1048576) (hk : k = no) :
    Calls Tryd.prog 57 #[.pointer (some ⟨bk, 0, none⟩)] w fun e w' => e = .panicked [{ v := .iface 96 (.agg #[]), recovered := false }] ∧ ∃ m, w' = w.drewN m := by
  subst hk
  obtain ⟨s, ⟨x0, x1, x2, x3, x4, x5, x6, x7, x8⟩, _⟩ := p
  go_enter Tryd.func57, Tryd.ntmps57
  go_wp2_with fail
  refine wp_region_held_drew (S := fun w' => w'.cell? ⟨bk, 0, none⟩ = some (.int .i64 a) ∧ w'.cell? ⟨bk, 1, none⟩ = some (.int .i64 b) ∧ w'.cell? ⟨bk, 2, none⟩ = some (.int .i64 c) ∧ w'.cell? ⟨bk, 3, none⟩ = some (.slice A0 n0 k0) ∧ w'.cell? ⟨bk, 4, none⟩ = some (.slice A1 n1 k1) ∧ w'.cell? ⟨bk, 5, none⟩ = some (.slice O k ko) ∧ w'.cell? ⟨bk, 6, none⟩ = some (.slice T nt kt) ∧ w'.cell? ⟨bk, 7, none⟩ = some (.int .i64 (k : Int)) ∧ w'.cell? ⟨bk, 8, none⟩ = some (.int .i64 z)) (by kernel_rfl) ⟨x0, x1, x2, x3, x4, x5, x6, x7, x8⟩ (fun hHeld => ?_)
  ((refine wpAnyH_take (i := 0) (oi := ⟨some 6, _, _, _, _, _⟩) (v := ?_) rfl (by kernel_rfl) (by kernel_rfl) (by kernel_rfl) (fun _ _ _ h => h) (Or.inl ⟨by rfl, ?_⟩) (by assumption) ?_; rotate_left 1; (focus (intro w hSw; (try dsimp only at hSw); go_simp <;> try (first | (with_reducible rfl) | (rw [if_neg (by omega)]) | (rw [if_pos (by omega)])))); try simp only [Act.put, List.setIfInBounds_toArray, List.set_cons_zero, List.set_cons_succ]); (refine wpAnyH_take (i := 1) (oi := ⟨some 7, _, _, _, _, _⟩) (v := ?_) rfl (by kernel_rfl) (by kernel_rfl) (by kernel_rfl) (fun _ _ _ h => h) (Or.inl ⟨by rfl, ?_⟩) (by assumption) ?_; rotate_left 1; (focus (intro w hSw; (try dsimp only at hSw); go_simp <;> try (first | (with_reducible rfl) | (rw [if_neg (by omega)]) | (rw [if_pos (by omega)])))); try simp only [Act.put, List.setIfInBounds_toArray, List.set_cons_zero, List.set_cons_succ]); (refine wpAnyH_take (i := 2) (oi := ⟨some 8, _, _, _, _, _⟩) (v := ?_) rfl (by kernel_rfl) (by kernel_rfl) (by kernel_rfl) (fun _ _ _ h => h) (Or.inl ⟨by rfl, ?_⟩) (by assumption) ?_; rotate_left 1; (focus (intro w hSw; (try dsimp only at hSw); go_simp <;> try (first | (with_reducible rfl) | (rw [if_neg (by omega)]) | (rw [if_pos (by omega)])))); try simp only [Act.put, List.setIfInBounds_toArray, List.set_cons_zero, List.set_cons_succ]); (refine wpAnyH_take (i := 3) (oi := ⟨some 9, _, _, _, _, _⟩) (v := ?_) rfl (by kernel_rfl) (by kernel_rfl) (by kernel_rfl) (fun _ _ _ h => h) (Or.inl ⟨by rfl, ?_⟩) (by assumption) ?_; rotate_left 1; (focus (intro w hSw; (try dsimp only at hSw); go_simp <;> try (first | (with_reducible rfl) | (rw [if_neg (by omega)]) | (rw [if_pos (by omega)])))); try simp only [Act.put, List.setIfInBounds_toArray, List.set_cons_zero, List.set_cons_succ]); (refine wpAnyH_take (i := 4) (oi := ⟨some 10, _, _, _, _, _⟩) (v := ?_) rfl (by kernel_rfl) (by kernel_rfl) (by kernel_rfl) (fun _ _ _ h => h) (Or.inl ⟨by rfl, ?_⟩) (by assumption) ?_; rotate_left 1; (focus (intro w hSw; (try dsimp only at hSw); go_simp <;> try (first | (with_reducible rfl) | (rw [if_neg (by omega)]) | (rw [if_pos (by omega)])))); try simp only [Act.put, List.setIfInBounds_toArray, List.set_cons_zero, List.set_cons_succ]); (refine wpAnyH_take (i := 5) (oi := ⟨some 11, _, _, _, _, _⟩) (v := ?_) rfl (by kernel_rfl) (by kernel_rfl) (by kernel_rfl) (fun _ _ _ h => h) (Or.inl ⟨by rfl, ?_⟩) (by assumption) ?_; rotate_left 1; (focus (intro w hSw; (try dsimp only at hSw); go_simp <;> try (first | (with_reducible rfl) | (rw [if_neg (by omega)]) | (rw [if_pos (by omega)])))); try simp only [Act.put, List.setIfInBounds_toArray, List.set_cons_zero, List.set_cons_succ]); (refine wpAnyH_take (i := 6) (oi := ⟨some 12, _, _, _, _, _⟩) (v := ?_) rfl (by kernel_rfl) (by kernel_rfl) (by kernel_rfl) (fun _ _ _ h => h) (Or.inl ⟨by rfl, ?_⟩) (by assumption) ?_; rotate_left 1; (focus (intro w hSw; (try dsimp only at hSw); go_simp <;> try (first | (with_reducible rfl) | (rw [if_neg (by omega)]) | (rw [if_pos (by omega)])))); try simp only [Act.put, List.setIfInBounds_toArray, List.set_cons_zero, List.set_cons_succ]); (refine wpAnyH_take (i := 7) (oi := ⟨some 13, _, _, _, _, _⟩) (v := ?_) rfl (by kernel_rfl) (by kernel_rfl) (by kernel_rfl) (fun _ _ _ h => h) (Or.inl ⟨by rfl, ?_⟩) (by assumption) ?_; rotate_left 1; (focus (intro w hSw; (try dsimp only at hSw); go_simp <;> try (first | (with_reducible rfl) | (rw [if_neg (by omega)]) | (rw [if_pos (by omega)])))); try simp only [Act.put, List.setIfInBounds_toArray, List.set_cons_zero, List.set_cons_succ]))
  (refine wpAnyH_ready (rs := [8]) (by kernel_rfl) (by simp) ?_; refine AllReadyH.cons rfl (fun K hK => ?_) AllReadyH.nil; go_simp)
  (refine hK.out _ _ ?_ (fun hHeld => ?_))
  · first | exact hHeld | exact ⟨x0, x1, x2, x3, x4, x5, x6, x7, x8⟩
  clear hK K
  ((refine wpAnyH_take (i := 9) (oi := ⟨some 15, _, _, _, _, _⟩) (v := ?_) rfl (by kernel_rfl) (by kernel_rfl) (by kernel_rfl) (fun _ _ _ h => h) (Or.inl ⟨by rfl, ?_⟩) (by assumption) ?_; rotate_left 1; (focus (intro w hSw; (try dsimp only at hSw); go_simp <;> try (first | (with_reducible rfl) | (rw [if_neg (by omega)]) | (rw [if_pos (by omega)])))); try simp only [Act.put, List.setIfInBounds_toArray, List.set_cons_zero, List.set_cons_succ]))
  refine wpAnyH_done (by kernel_rfl) ?_ _
  go_wp2
  exact ⟨rfl, rfl, _, rfl⟩

set_option maxRecDepth 100000 in
set_option maxHeartbeats 6400000 in
theorem pass_t (bk : Nat) (A0 : Option Addr) (n0 k0 : Nat) (ls : List Int) (A1 : Option Addr) (n1 k1 : Nat) (vs : List Int) (a b c z : Int) (O : Option Addr) (no ko : Nat) (T : Option Addr) (nt kt k : Nat) (y s : Int) (w : World) (p : PBox w bk a b c A0 n0 k0 A1 n1 k1 (.slice O no ko) (.slice T nt kt) (k : Int) z) (hn0 : n0 ≤ 1048576) (hn1 : n1 ≤ 1048576) (ra : Rd w bk A0 n0 ls) (rb : Rd w bk A1 n1 vs) (h : brOk ls vs a b c) (hy : levOk y) (hs : stoOk s) (hno : no ≤ 1048576) (hnt : nt ≤ 1048576) (hk : k < no) (hkt : k < nt) (hro : ∃ ob oo, O = some ⟨ob, oo, none⟩ ∧ ob < bk ∧ w.cell? ⟨ob, oo + k, none⟩ = some (.int .i64 y)) (hrt : ∃ tb tq, T = some ⟨tb, tq, none⟩ ∧ tb < bk ∧ w.cell? ⟨tb, tq + k, none⟩ = some (.int .i64 s)) (hz : 0 ≤ z ∧ z ≤ 1000 * (k : Int)) (a2 c2 z2 : Int) (ha2 : a2 = stW a (headN ls vs b c y) s) (hc2 : c2 = c + inflN ls vs a b c y) (hz2 : z2 = z + cloN a (headN ls vs b c y) s) (se0 se1 : Addr) (hsent : Sent w bk se0 se1) :
    Calls Tryd.prog 57 #[.pointer (some ⟨bk, 0, none⟩)] w fun e w' => e = .returned (.tuple #[]) ∧ Chg bk (bk + 1) w w' ∧ PBox w' bk a2 b c2 A0 n0 k0 A1 n1 k1 (.slice O no ko) (.slice T nt kt) ((k : Int) + 1) z2 := by
  have RA := Lib.hid ra
  have RB := Lib.hid rb
  have HS := Lib.hid hsent
  have PB0 := Lib.hid p
  have hs0 := p.sz
  obtain ⟨ob, oo, rfl, hob, yo⟩ := hro
  obtain ⟨tb, tq, rfl, htb, ys⟩ := hrt
  have HB := Lib.hid h
  have HY := Lib.hid hy
  obtain ⟨inn, hin⟩ : ∃ l, l = inflN ls vs a b c y := ⟨_, rfl⟩
  obtain ⟨hd, hhd⟩ : ∃ l, l = headN ls vs b c y := ⟨_, rfl⟩
  obtain ⟨cl, hcl⟩ : ∃ l, l = cloN a hd s := ⟨_, rfl⟩
  have HI := Lib.hid hin
  have HH := Lib.hid hhd
  obtain ⟨i1, i2, i3⟩ := inflN_bd h hy
  obtain ⟨hb1, hb2⟩ := headN_bd h hy
  have cb := cloN_bd h hy hs
  rw [← hhd] at cb hb1 hb2 ha2 hz2
  rw [← hcl] at cb hz2
  rw [← hin] at i1 i2 hc2
  have hl := last_bd h.1
  have hc0 := h.2.1.2.2.1
  have ha0 := h.2.1.1
  have iw := IntWalk.i64_in (c + inn) (by omega)
  obtain ⟨s1, s2⟩ := hs
  obtain ⟨dq, hdq⟩ : ∃ l, l = (hd + 9) / 10 := ⟨_, rfl⟩
  have HDQ := Lib.hid hdq
  have td : (hd + 9).tdiv 10 = dq := by rw [hdq]; exact Int.tdiv_eq_ediv_of_nonneg (by omega)
  have w1 := IntWalk.i64_in (hd + 9) (by omega)
  have w2 := IntWalk.i64_in dq (by omega)
  have wz := IntWalk.i64_in (z + cl) (by omega)
  have wk := IntWalk.i64_in ((k : Int) + 1) (by omega)
  have dq0 : 0 ≤ dq ∧ dq ≤ 401 := by omega
  have HCL := Lib.hid (show cl = min s (widN a hd) from hcl)
  have HST := Lib.hid (show a2 = min (widN a hd - cl) 1000 by rw [ha2, hcl]; rfl)
  subst hc2 hz2
  have ik : (k : Int) < (no : Int) := by omega
  have ikt : (k : Int) < (nt : Int) := by omega
  have ine : ((k : Int) == (no : Int)) = false := by simp; omega
  clear h hy hin hhd i3 hdq ha2 p ra rb hsent hcl
  obtain ⟨_, ⟨x0, x1, x2, x3, x4, x5, x6, x7, x8⟩, _⟩ := PB0.out
  go_enter Tryd.func57, Tryd.ntmps57
  go_wp2_with fail
  refine wp_region_held_drew (S := fun w' => w'.cell? ⟨bk, 0, none⟩ = some (.int .i64 a) ∧ w'.cell? ⟨bk, 1, none⟩ = some (.int .i64 b) ∧ w'.cell? ⟨bk, 2, none⟩ = some (.int .i64 c) ∧ w'.cell? ⟨bk, 3, none⟩ = some (.slice A0 n0 k0) ∧ w'.cell? ⟨bk, 4, none⟩ = some (.slice A1 n1 k1) ∧ w'.cell? ⟨bk, 5, none⟩ = some (.slice (some ⟨ob, oo, none⟩) no ko) ∧ w'.cell? ⟨bk, 6, none⟩ = some (.slice (some ⟨tb, tq, none⟩) nt kt) ∧ w'.cell? ⟨bk, 7, none⟩ = some (.int .i64 (k : Int)) ∧ w'.cell? ⟨bk, 8, none⟩ = some (.int .i64 z)) (by kernel_rfl) ⟨x0, x1, x2, x3, x4, x5, x6, x7, x8⟩ (fun hHeld => ?_)
  ((refine wpAnyH_take (i := 0) (oi := ⟨some 6, _, _, _, _, _⟩) (v := ?_) rfl (by kernel_rfl) (by kernel_rfl) (by kernel_rfl) (fun _ _ _ h => h) (Or.inl ⟨by rfl, ?_⟩) (by assumption) ?_; rotate_left 1; (focus (intro w hSw; (try dsimp only at hSw); go_simp <;> try (first | (with_reducible rfl) | (rw [if_neg (by omega)]) | (rw [if_pos (by omega)])))); try simp only [Act.put, List.setIfInBounds_toArray, List.set_cons_zero, List.set_cons_succ]); (refine wpAnyH_take (i := 1) (oi := ⟨some 7, _, _, _, _, _⟩) (v := ?_) rfl (by kernel_rfl) (by kernel_rfl) (by kernel_rfl) (fun _ _ _ h => h) (Or.inl ⟨by rfl, ?_⟩) (by assumption) ?_; rotate_left 1; (focus (intro w hSw; (try dsimp only at hSw); go_simp <;> try (first | (with_reducible rfl) | (rw [if_neg (by omega)]) | (rw [if_pos (by omega)])))); try simp only [Act.put, List.setIfInBounds_toArray, List.set_cons_zero, List.set_cons_succ]); (refine wpAnyH_take (i := 2) (oi := ⟨some 8, _, _, _, _, _⟩) (v := ?_) rfl (by kernel_rfl) (by kernel_rfl) (by kernel_rfl) (fun _ _ _ h => h) (Or.inl ⟨by rfl, ?_⟩) (by assumption) ?_; rotate_left 1; (focus (intro w hSw; (try dsimp only at hSw); go_simp <;> try (first | (with_reducible rfl) | (rw [if_neg (by omega)]) | (rw [if_pos (by omega)])))); try simp only [Act.put, List.setIfInBounds_toArray, List.set_cons_zero, List.set_cons_succ]); (refine wpAnyH_take (i := 3) (oi := ⟨some 9, _, _, _, _, _⟩) (v := ?_) rfl (by kernel_rfl) (by kernel_rfl) (by kernel_rfl) (fun _ _ _ h => h) (Or.inl ⟨by rfl, ?_⟩) (by assumption) ?_; rotate_left 1; (focus (intro w hSw; (try dsimp only at hSw); go_simp <;> try (first | (with_reducible rfl) | (rw [if_neg (by omega)]) | (rw [if_pos (by omega)])))); try simp only [Act.put, List.setIfInBounds_toArray, List.set_cons_zero, List.set_cons_succ]); (refine wpAnyH_take (i := 4) (oi := ⟨some 10, _, _, _, _, _⟩) (v := ?_) rfl (by kernel_rfl) (by kernel_rfl) (by kernel_rfl) (fun _ _ _ h => h) (Or.inl ⟨by rfl, ?_⟩) (by assumption) ?_; rotate_left 1; (focus (intro w hSw; (try dsimp only at hSw); go_simp <;> try (first | (with_reducible rfl) | (rw [if_neg (by omega)]) | (rw [if_pos (by omega)])))); try simp only [Act.put, List.setIfInBounds_toArray, List.set_cons_zero, List.set_cons_succ]); (refine wpAnyH_take (i := 5) (oi := ⟨some 11, _, _, _, _, _⟩) (v := ?_) rfl (by kernel_rfl) (by kernel_rfl) (by kernel_rfl) (fun _ _ _ h => h) (Or.inl ⟨by rfl, ?_⟩) (by assumption) ?_; rotate_left 1; (focus (intro w hSw; (try dsimp only at hSw); go_simp <;> try (first | (with_reducible rfl) | (rw [if_neg (by omega)]) | (rw [if_pos (by omega)])))); try simp only [Act.put, List.setIfInBounds_toArray, List.set_cons_zero, List.set_cons_succ]); (refine wpAnyH_take (i := 6) (oi := ⟨some 12, _, _, _, _, _⟩) (v := ?_) rfl (by kernel_rfl) (by kernel_rfl) (by kernel_rfl) (fun _ _ _ h => h) (Or.inl ⟨by rfl, ?_⟩) (by assumption) ?_; rotate_left 1; (focus (intro w hSw; (try dsimp only at hSw); go_simp <;> try (first | (with_reducible rfl) | (rw [if_neg (by omega)]) | (rw [if_pos (by omega)])))); try simp only [Act.put, List.setIfInBounds_toArray, List.set_cons_zero, List.set_cons_succ]); (refine wpAnyH_take (i := 7) (oi := ⟨some 13, _, _, _, _, _⟩) (v := ?_) rfl (by kernel_rfl) (by kernel_rfl) (by kernel_rfl) (fun _ _ _ h => h) (Or.inl ⟨by rfl, ?_⟩) (by assumption) ?_; rotate_left 1; (focus (intro w hSw; (try dsimp only at hSw); go_simp <;> try (first | (with_reducible rfl) | (rw [if_neg (by omega)]) | (rw [if_pos (by omega)])))); try simp only [Act.put, List.setIfInBounds_toArray, List.set_cons_zero, List.set_cons_succ]))
  (refine wpAnyH_ready (rs := [8]) (by kernel_rfl) (by simp) ?_; refine AllReadyH.cons rfl (fun K hK => ?_) AllReadyH.nil; go_simp)
  (refine hK.out _ _ ?_ (fun hHeld => ?_))
  · first | exact hHeld | exact ⟨x0, x1, x2, x3, x4, x5, x6, x7, x8⟩
  clear hK K
  ((refine wpAnyH_take (i := 9) (oi := ⟨some 15, _, _, _, _, _⟩) (v := ?_) rfl (by kernel_rfl) (by kernel_rfl) (by kernel_rfl) (fun _ _ _ h => h) (Or.inl ⟨by rfl, ?_⟩) (by assumption) ?_; rotate_left 1; (focus (intro w hSw; (try dsimp only at hSw); go_simp <;> try (first | (with_reducible rfl) | (rw [if_neg (by omega)]) | (rw [if_pos (by omega)])))); try simp only [Act.put, List.setIfInBounds_toArray, List.set_cons_zero, List.set_cons_succ]))
  refine wpAnyH_done (by kernel_rfl) ?_ _
  go_wp2_with fail
  refine wp_region_held_drew (S := fun w' => w'.cell? ⟨bk, 0, none⟩ = some (.int .i64 a) ∧ w'.cell? ⟨bk, 1, none⟩ = some (.int .i64 b) ∧ w'.cell? ⟨bk, 2, none⟩ = some (.int .i64 c) ∧ w'.cell? ⟨bk, 3, none⟩ = some (.slice A0 n0 k0) ∧ w'.cell? ⟨bk, 4, none⟩ = some (.slice A1 n1 k1) ∧ w'.cell? ⟨bk, 5, none⟩ = some (.slice (some ⟨ob, oo, none⟩) no ko) ∧ w'.cell? ⟨bk, 6, none⟩ = some (.slice (some ⟨tb, tq, none⟩) nt kt) ∧ w'.cell? ⟨bk, 7, none⟩ = some (.int .i64 (k : Int)) ∧ w'.cell? ⟨bk, 8, none⟩ = some (.int .i64 z) ∧ w'.cell? ⟨ob, oo + k, none⟩ = some (.int .i64 y) ∧ w'.cell? ⟨tb, tq + k, none⟩ = some (.int .i64 s)) (by kernel_rfl) ⟨x0, x1, x2, x3, x4, x5, x6, x7, x8, yo, ys⟩ (fun hHeld => ?_)
  ((refine wpAnyH_take (i := 0) (oi := ⟨some 18, _, _, _, _, _⟩) (v := ?_) rfl (by kernel_rfl) (by kernel_rfl) (by kernel_rfl) (fun _ _ _ h => h) (Or.inl ⟨by rfl, ?_⟩) (by assumption) ?_; rotate_left 1; (focus (intro w hSw; (try dsimp only at hSw); go_simp <;> try (first | (with_reducible rfl) | (rw [if_neg (by omega)]) | (rw [if_pos (by omega)])))); try simp only [Act.put, List.setIfInBounds_toArray, List.set_cons_zero, List.set_cons_succ]); (refine wpAnyH_take (i := 1) (oi := ⟨some 19, _, _, _, _, _⟩) (v := ?_) rfl (by kernel_rfl) (by kernel_rfl) (by kernel_rfl) (fun _ _ _ h => h) (Or.inl ⟨by rfl, ?_⟩) (by assumption) ?_; rotate_left 1; (focus (intro w hSw; (try dsimp only at hSw); go_simp <;> try (first | (with_reducible rfl) | (rw [if_neg (by omega)]) | (rw [if_pos (by omega)])))); try simp only [Act.put, List.setIfInBounds_toArray, List.set_cons_zero, List.set_cons_succ]); (refine wpAnyH_take (i := 2) (oi := ⟨some 20, _, _, _, _, _⟩) (v := ?_) rfl (by kernel_rfl) (by kernel_rfl) (by kernel_rfl) (fun _ _ _ h => h) (Or.inl ⟨by rfl, ?_⟩) (by assumption) ?_; rotate_left 1; (focus (intro w hSw; (try dsimp only at hSw); go_simp <;> try (first | (with_reducible rfl) | (rw [if_neg (by omega)]) | (rw [if_pos (by omega)])))); try simp only [Act.put, List.setIfInBounds_toArray, List.set_cons_zero, List.set_cons_succ]); (refine wpAnyH_take (i := 3) (oi := ⟨some 21, _, _, _, _, _⟩) (v := ?_) rfl (by kernel_rfl) (by kernel_rfl) (by kernel_rfl) (fun _ _ _ h => h) (Or.inl ⟨by rfl, ?_⟩) (by assumption) ?_; rotate_left 1; (focus (intro w hSw; (try dsimp only at hSw); go_simp <;> try (first | (with_reducible rfl) | (rw [if_neg (by omega)]) | (rw [if_pos (by omega)])))); try simp only [Act.put, List.setIfInBounds_toArray, List.set_cons_zero, List.set_cons_succ]); (refine wpAnyH_take (i := 4) (oi := ⟨some 22, _, _, _, _, _⟩) (v := ?_) rfl (by kernel_rfl) (by kernel_rfl) (by kernel_rfl) (fun _ _ _ h => h) (Or.inl ⟨by rfl, ?_⟩) (by assumption) ?_; rotate_left 1; (focus (intro w hSw; (try dsimp only at hSw); go_simp <;> try (first | (with_reducible rfl) | (rw [if_neg (by omega)]) | (rw [if_pos (by omega)])))); try simp only [Act.put, List.setIfInBounds_toArray, List.set_cons_zero, List.set_cons_succ]); (refine wpAnyH_take (i := 5) (oi := ⟨some 23, _, _, _, _, _⟩) (v := ?_) rfl (by kernel_rfl) (by kernel_rfl) (by kernel_rfl) (fun _ _ _ h => h) (Or.inl ⟨by rfl, ?_⟩) (by assumption) ?_; rotate_left 1; (focus (intro w hSw; (try dsimp only at hSw); go_simp <;> try (first | (with_reducible rfl) | (rw [if_neg (by omega)]) | (rw [if_pos (by omega)])))); try simp only [Act.put, List.setIfInBounds_toArray, List.set_cons_zero, List.set_cons_succ]); (refine wpAnyH_take (i := 6) (oi := ⟨some 24, _, _, _, _, _⟩) (v := ?_) rfl (by kernel_rfl) (by kernel_rfl) (by kernel_rfl) (fun _ _ _ h => h) (Or.inl ⟨by rfl, ?_⟩) (by assumption) ?_; rotate_left 1; (focus (intro w hSw; (try dsimp only at hSw); go_simp <;> try (first | (with_reducible rfl) | (rw [if_neg (by omega)]) | (rw [if_pos (by omega)])))); try simp only [Act.put, List.setIfInBounds_toArray, List.set_cons_zero, List.set_cons_succ]); (refine wpAnyH_take (i := 7) (oi := ⟨some 25, _, _, _, _, _⟩) (v := ?_) rfl (by kernel_rfl) (by kernel_rfl) (by kernel_rfl) (fun _ _ _ h => h) (Or.inl ⟨by rfl, ?_⟩) (by assumption) ?_; rotate_left 1; (focus (intro w hSw; (try dsimp only at hSw); go_simp <;> try (first | (with_reducible rfl) | (rw [if_neg (by omega)]) | (rw [if_pos (by omega)])))); try simp only [Act.put, List.setIfInBounds_toArray, List.set_cons_zero, List.set_cons_succ]); (refine wpAnyH_take (i := 8) (oi := ⟨some 26, _, _, _, _, _⟩) (v := ?_) rfl (by kernel_rfl) (by kernel_rfl) (by kernel_rfl) (fun _ _ _ h => h) (Or.inl ⟨by rfl, ?_⟩) (by assumption) ?_; rotate_left 1; (focus (intro w hSw; (try dsimp only at hSw); go_simp <;> try (first | (with_reducible rfl) | (rw [if_neg (by omega)]) | (rw [if_pos (by omega)])))); try simp only [Act.put, List.setIfInBounds_toArray, List.set_cons_zero, List.set_cons_succ]); (refine wpAnyH_take (i := 9) (oi := ⟨some 27, _, _, _, _, _⟩) (v := ?_) rfl (by kernel_rfl) (by kernel_rfl) (by kernel_rfl) (fun _ _ _ h => h) (Or.inl ⟨by rfl, ?_⟩) (by assumption) ?_; rotate_left 1; (focus (intro w hSw; (try dsimp only at hSw); go_simp <;> try (first | (with_reducible rfl) | (rw [if_neg (by omega)]) | (rw [if_pos (by omega)])))); try simp only [Act.put, List.setIfInBounds_toArray, List.set_cons_zero, List.set_cons_succ]); (refine wpAnyH_take (i := 10) (oi := ⟨some 28, _, _, _, _, _⟩) (v := ?_) rfl (by kernel_rfl) (by kernel_rfl) (by kernel_rfl) (fun _ _ _ h => h) (Or.inl ⟨by rfl, ?_⟩) (by assumption) ?_; rotate_left 1; (focus (intro w hSw; (try dsimp only at hSw); go_simp <;> try (first | (with_reducible rfl) | (rw [if_neg (by omega)]) | (rw [if_pos (by omega)])))); try simp only [Act.put, List.setIfInBounds_toArray, List.set_cons_zero, List.set_cons_succ]); (refine wpAnyH_take (i := 11) (oi := ⟨some 29, _, _, _, _, _⟩) (v := ?_) rfl (by kernel_rfl) (by kernel_rfl) (by kernel_rfl) (fun _ _ _ h => h) (Or.inl ⟨by rfl, ?_⟩) (by assumption) ?_; rotate_left 1; (focus (intro w hSw; (try dsimp only at hSw); go_simp <;> try (first | (with_reducible rfl) | (rw [if_neg (by omega)]) | (rw [if_pos (by omega)])))); try simp only [Act.put, List.setIfInBounds_toArray, List.set_cons_zero, List.set_cons_succ]); (refine wpAnyH_take (i := 12) (oi := ⟨some 30, _, _, _, _, _⟩) (v := ?_) rfl (by kernel_rfl) (by kernel_rfl) (by kernel_rfl) (fun _ _ _ h => h) (Or.inl ⟨by rfl, ?_⟩) (by assumption) ?_; rotate_left 1; (focus (intro w hSw; (try dsimp only at hSw); go_simp <;> try (first | (with_reducible rfl) | (rw [if_neg (by omega)]) | (rw [if_pos (by omega)])))); try simp only [Act.put, List.setIfInBounds_toArray, List.set_cons_zero, List.set_cons_succ]); (refine wpAnyH_take (i := 13) (oi := ⟨some 31, _, _, _, _, _⟩) (v := ?_) rfl (by kernel_rfl) (by kernel_rfl) (by kernel_rfl) (fun _ _ _ h => h) (Or.inl ⟨by rfl, ?_⟩) (by assumption) ?_; rotate_left 1; (focus (intro w hSw; (try dsimp only at hSw); go_simp <;> try (first | (with_reducible rfl) | (rw [if_neg (by omega)]) | (rw [if_pos (by omega)])))); try simp only [Act.put, List.setIfInBounds_toArray, List.set_cons_zero, List.set_cons_succ]); (refine wpAnyH_take (i := 14) (oi := ⟨some 32, _, _, _, _, _⟩) (v := ?_) rfl (by kernel_rfl) (by kernel_rfl) (by kernel_rfl) (fun _ _ _ h => h) (Or.inl ⟨by rfl, ?_⟩) (by assumption) ?_; rotate_left 1; (focus (intro w hSw; (try dsimp only at hSw); go_simp <;> try (first | (with_reducible rfl) | (rw [if_neg (by omega)]) | (rw [if_pos (by omega)])))); try simp only [Act.put, List.setIfInBounds_toArray, List.set_cons_zero, List.set_cons_succ]); (refine wpAnyH_take (i := 15) (oi := ⟨some 33, _, _, _, _, _⟩) (v := ?_) rfl (by kernel_rfl) (by kernel_rfl) (by kernel_rfl) (fun _ _ _ h => h) (Or.inl ⟨by rfl, ?_⟩) (by assumption) ?_; rotate_left 1; (focus (intro w hSw; (try dsimp only at hSw); go_simp <;> try (first | (with_reducible rfl) | (rw [if_neg (by omega)]) | (rw [if_pos (by omega)])))); try simp only [Act.put, List.setIfInBounds_toArray, List.set_cons_zero, List.set_cons_succ]); (refine wpAnyH_take (i := 16) (oi := ⟨some 34, _, _, _, _, _⟩) (v := ?_) rfl (by kernel_rfl) (by kernel_rfl) (by kernel_rfl) (fun _ _ _ h => h) (Or.inl ⟨by rfl, ?_⟩) (by assumption) ?_; rotate_left 1; (focus (intro w hSw; (try dsimp only at hSw); go_simp <;> try (first | (with_reducible rfl) | (rw [if_neg (by omega)]) | (rw [if_pos (by omega)])))); try simp only [Act.put, List.setIfInBounds_toArray, List.set_cons_zero, List.set_cons_succ]); (refine wpAnyH_take (i := 17) (oi := ⟨some 35, _, _, _, _, _⟩) (v := ?_) rfl (by kernel_rfl) (by kernel_rfl) (by kernel_rfl) (fun _ _ _ h => h) (Or.inl ⟨by rfl, ?_⟩) (by assumption) ?_; rotate_left 1; (focus (intro w hSw; (try dsimp only at hSw); go_simp <;> try (first | (with_reducible rfl) | (rw [if_neg (by omega)]) | (rw [if_pos (by omega)])))); try simp only [Act.put, List.setIfInBounds_toArray, List.set_cons_zero, List.set_cons_succ]); (refine wpAnyH_take (i := 18) (oi := ⟨some 36, _, _, _, _, _⟩) (v := ?_) rfl (by kernel_rfl) (by kernel_rfl) (by kernel_rfl) (fun _ _ _ h => h) (Or.inl ⟨by rfl, ?_⟩) (by assumption) ?_; rotate_left 1; (focus (intro w hSw; (try dsimp only at hSw); go_simp <;> try (first | (with_reducible rfl) | (rw [if_neg (by omega)]) | (rw [if_pos (by omega)])))); try simp only [Act.put, List.setIfInBounds_toArray, List.set_cons_zero, List.set_cons_succ]); (refine wpAnyH_take (i := 19) (oi := ⟨some 37, _, _, _, _, _⟩) (v := ?_) rfl (by kernel_rfl) (by kernel_rfl) (by kernel_rfl) (fun _ _ _ h => h) (Or.inl ⟨by rfl, ?_⟩) (by assumption) ?_; rotate_left 1; (focus (intro w hSw; (try dsimp only at hSw); go_simp <;> try (first | (with_reducible rfl) | (rw [if_neg (by omega)]) | (rw [if_pos (by omega)])))); try simp only [Act.put, List.setIfInBounds_toArray, List.set_cons_zero, List.set_cons_succ]); (refine wpAnyH_take (i := 20) (oi := ⟨some 2, _, _, _, _, _⟩) (v := ?_) rfl (by kernel_rfl) (by kernel_rfl) (by kernel_rfl) (fun _ _ _ h => h) (Or.inl ⟨by rfl, ?_⟩) (by assumption) ?_; rotate_left 1; (focus (intro w hSw; (try dsimp only at hSw); go_simp <;> try (first | (with_reducible rfl) | (rw [if_neg (by omega)]) | (rw [if_pos (by omega)])))); try simp only [Act.put, List.setIfInBounds_toArray, List.set_cons_zero, List.set_cons_succ]); (refine wpAnyH_take (i := 21) (oi := ⟨some 3, _, _, _, _, _⟩) (v := ?_) rfl (by kernel_rfl) (by kernel_rfl) (by kernel_rfl) (fun _ _ _ h => h) (Or.inl ⟨by rfl, ?_⟩) (by assumption) ?_; rotate_left 1; (focus (intro w hSw; (try dsimp only at hSw); go_simp <;> try (first | (with_reducible rfl) | (rw [if_neg (by omega)]) | (rw [if_pos (by omega)])))); try simp only [Act.put, List.setIfInBounds_toArray, List.set_cons_zero, List.set_cons_succ]))
  refine wpAnyH_done (by kernel_rfl) ?_ _
  have CH0 : Chg bk (bk + 1) w w := Chg.refl' _ _ _
  go_wp2_with (go_at_call 50; refine (headI_t A0 n0 k0 ls A1 n1 k1 vs a b c y (.slice (some ⟨ob, oo, none⟩) no ko) (.slice (some ⟨tb, tq, none⟩) nt kt) (.int .i64 (k : Int)) (.int .i64 z) _ hn0 hn1 ((RA.out.below (by repeat (first | assumption | exact Below.refl _ _ | (refine Below.setCell ?_ (by first | omega | (simp; done) | (simp; omega)) _) | apply below_drewN | apply Below.drew | (refine Below.alloc ?_ (by first | omega | (simp; done) | (simp; omega)) _)))).mono (by first | omega | (simp; done) | (simp; omega))) ((RB.out.below (by repeat (first | assumption | exact Below.refl _ _ | (refine Below.setCell ?_ (by first | omega | (simp; done) | (simp; omega)) _) | apply below_drewN | apply Below.drew | (refine Below.alloc ?_ (by first | omega | (simp; done) | (simp; omega)) _)))).mono (by first | omega | (simp; done) | (simp; omega))) HB.out HY.out hd HH.out se0 se1 ((HS.out.below (by repeat (first | assumption | exact Below.refl _ _ | (refine Below.setCell ?_ (by first | omega | (simp; done) | (simp; omega)) _) | apply below_drewN | apply Below.drew | (refine Below.alloc ?_ (by first | omega | (simp; done) | (simp; omega)) _)))).mono (by first | omega | (simp; done) | (simp; omega)))).mono ?_; rintro e1 V1 ⟨rfl, B1⟩; have B1' := Lib.hid (show Below w.heap.size w V1 from (by repeat (first | assumption | exact Below.refl _ _ | (refine Below.trans ?_ (B1.mono (by first | omega | (simp; done) | (simp; omega)))) | (refine Below.setCell ?_ (by first | omega | (simp; done) | (simp; omega)) _) | apply below_drewN | apply Below.drew | (refine Below.alloc ?_ (by first | omega | (simp; done) | (simp; omega)) _)))); clear B1)
  rename_i Q0 K4 hK4
  have key : ∀ (X : World), Hid (PBox X bk a b (c + inn) A0 n0 k0 A1 n1 k1 (.slice (some ⟨ob, oo, none⟩) no ko) (.slice (some ⟨tb, tq, none⟩) nt kt) (k : Int) z) → Hid (Chg bk (bk + 1) w X) → K4 ⟨#[.pointer (some ⟨bk, 0, none⟩), undef, .int .i64 y, .int .i64 s, .int .i64 hd, undef, .pointer (some ⟨bk, 0, none⟩), .pointer (some ⟨bk, 0, none⟩), .pointer (some ⟨bk, 7, none⟩), .int .i64 (k : Int), .pointer (some ⟨bk, 0, none⟩), .pointer (some ⟨bk, 0, none⟩), .pointer (some ⟨bk, 5, none⟩), .slice (some ⟨ob, oo, none⟩) no ko, .int .i64 (no : Int), .bool false, undef, undef, .pointer (some ⟨bk, 0, none⟩), .pointer (some ⟨bk, 0, none⟩), .pointer (some ⟨bk, 5, none⟩), .slice (some ⟨ob, oo, none⟩) no ko, .pointer (some ⟨bk, 0, none⟩), .pointer (some ⟨bk, 0, none⟩), .pointer (some ⟨bk, 7, none⟩), .int .i64 (k : Int), .pointer (some ⟨ob, oo + k, none⟩), .int .i64 y, .pointer (some ⟨bk, 0, none⟩), .pointer (some ⟨bk, 0, none⟩), .pointer (some ⟨bk, 6, none⟩), .slice (some ⟨tb, tq, none⟩) nt kt, .pointer (some ⟨bk, 0, none⟩), .pointer (some ⟨bk, 0, none⟩), .pointer (some ⟨bk, 7, none⟩), .int .i64 (k : Int), .pointer (some ⟨tb, tq + k, none⟩), .int .i64 s, .pointer (some ⟨bk, 0, none⟩), .pointer (some ⟨bk, 0, none⟩), .agg #[.int .i64 a, .int .i64 b, .int .i64 c, .slice A0 n0 k0, .slice A1 n1 k1, .slice (some ⟨ob, oo, none⟩) no ko, .slice (some ⟨tb, tq, none⟩) nt kt, .int .i64 (k : Int), .int .i64 z], .int .i64 y, .int .i64 hd, .pointer (some ⟨bk, 0, none⟩), .pointer (some ⟨bk, 0, none⟩), .pointer (some ⟨bk, 0, none⟩), .pointer (some ⟨bk, 2, none⟩), .int .i64 c, .pointer (some ⟨bk, 0, none⟩), .pointer (some ⟨bk, 0, none⟩), .agg #[.int .i64 a, .int .i64 b, .int .i64 c, .slice A0 n0 k0, .slice A1 n1 k1, .slice (some ⟨ob, oo, none⟩) no ko, .slice (some ⟨tb, tq, none⟩) nt kt, .int .i64 (k : Int), .int .i64 z], .int .i64 y, .int .i64 hd, .int .i64 inn, .int .i64 (c + inn), .pointer (some ⟨bk, 0, none⟩), .pointer (some ⟨bk, 0, none⟩), .pointer (some ⟨bk, 2, none⟩), undef, undef, undef, undef, undef, undef, undef, undef, undef, undef, undef, undef, undef, undef, undef, undef, undef, undef, undef, undef, undef, undef, undef, undef, undef, undef, undef, undef, undef, undef, undef, undef, undef, undef, undef, undef, undef, undef, undef, undef, undef, undef, undef, undef, undef, undef, undef, undef, undef, undef, undef, undef], []⟩ X := by
    intro X PB CH
    refine hK4 _ _ ?_
    clear hK4
    by_cases ha : 0 < a
    · have ew : widN a hd = a + dq := by rw [HDQ.out]; exact if_pos ha
      have w3 := IntWalk.i64_in (a + dq) (by omega)
      have w4 := IntWalk.i64_in (a + dq - cl) (by have := HCL.out; rw [ew] at this; omega)
      have em1 : (if a + dq < s then a + dq else s) = cl := by have := HCL.out; rw [ew] at this; rw [this]; split <;> omega
      have em2 : (if 1000 < a + dq - cl then 1000 else a + dq - cl) = a2 := by have := HST.out; rw [ew] at this; rw [this]; split <;> omega
      obtain ⟨sX, ⟨x0, x1, x2, x3, x4, x5, x6, x7, x8⟩, ⟨f0, f2, f7, f8⟩⟩ := PB.out
      clear x1 x2 x3 x4 x5 x6 f2
      skip
      go_wp2_with fail
      go_end0
      refine ⟨rfl, ?_, ?_⟩
      · exact ((((CH.out.set (p := ⟨bk, 0, none⟩) (Nat.le_refl _) (Nat.lt_succ_self _) _).set (p := ⟨bk, 0, none⟩) (Nat.le_refl _) (Nat.lt_succ_self _) _).set (p := ⟨bk, 8, none⟩) (Nat.le_refl _) (Nat.lt_succ_self _) _).set (p := ⟨bk, 7, none⟩) (Nat.le_refl _) (Nat.lt_succ_self _) _)
      · have := ((((PB.out.setA (a + dq)).setA a2).setZ (z + cl)).setH ((k : Int) + 1))
        first | exact this | simpa using this
    · have ew : widN a hd = a := if_neg ha
      have w4 := IntWalk.i64_in (a - cl) (by have := HCL.out; rw [ew] at this; omega)
      have em1 : (if a < s then a else s) = cl := by have := HCL.out; rw [ew] at this; rw [this]; split <;> omega
      obtain rfl : a2 = a - cl := by have h1 := HST.out; have h2 := HCL.out; rw [ew] at h1 h2; omega
      obtain ⟨sX, ⟨x0, x1, x2, x3, x4, x5, x6, x7, x8⟩, ⟨f0, f2, f7, f8⟩⟩ := PB.out
      clear x1 x2 x3 x4 x5 x6 f2
      skip
      go_wp2_with fail
      go_end0
      refine ⟨rfl, ?_, ?_⟩
      · exact (((CH.out.set (p := ⟨bk, 0, none⟩) (Nat.le_refl _) (Nat.lt_succ_self _) _).set (p := ⟨bk, 8, none⟩) (Nat.le_refl _) (Nat.lt_succ_self _) _).set (p := ⟨bk, 7, none⟩) (Nat.le_refl _) (Nat.lt_succ_self _) _)
      · have := (((PB.out.setA (a - cl)).setZ (z + cl)).setH ((k : Int) + 1))
        first | exact this | simpa using this
  clear hK4
  have PB1 := Lib.hid (PB0.out.below B1'.out)
  have CH1 := Lib.hid (CH0.thenB B1'.out)
  have CH1d := Lib.hid (CH1.out.thenD (V := V1.drew) (Below.refl _ _))
  clear x0 x1 x2 x3 x4 x5 x6 x7 x8 yo ys
  obtain ⟨s11, ⟨x0, x1, x2, x3, x4, x5, x6, x7, x8⟩, _⟩ := PB1.out
  refine wp_region_held_drew (S := fun w' => w'.cell? ⟨bk, 0, none⟩ = some (.int .i64 a) ∧ w'.cell? ⟨bk, 1, none⟩ = some (.int .i64 b) ∧ w'.cell? ⟨bk, 3, none⟩ = some (.slice A0 n0 k0) ∧ w'.cell? ⟨bk, 4, none⟩ = some (.slice A1 n1 k1) ∧ w'.cell? ⟨bk, 5, none⟩ = some (.slice (some ⟨ob, oo, none⟩) no ko) ∧ w'.cell? ⟨bk, 6, none⟩ = some (.slice (some ⟨tb, tq, none⟩) nt kt) ∧ w'.cell? ⟨bk, 7, none⟩ = some (.int .i64 (k : Int)) ∧ w'.cell? ⟨bk, 8, none⟩ = some (.int .i64 z)) (by kernel_rfl) ⟨x0, x1, x3, x4, x5, x6, x7, x8⟩ (fun hHeld => ?_)
  ((refine wpAnyH_take (i := 0) (oi := ⟨some 43, _, _, _, _, _⟩) (v := ?_) rfl (by kernel_rfl) (by kernel_rfl) (by kernel_rfl) (fun _ _ _ h => h) (Or.inl ⟨by rfl, ?_⟩) (by assumption) ?_; rotate_left 1; (focus (intro w hSw; (try dsimp only at hSw); go_simp <;> try (first | (with_reducible rfl) | (rw [if_neg (by omega)]) | (rw [if_pos (by omega)])))); try simp only [Act.put, List.setIfInBounds_toArray, List.set_cons_zero, List.set_cons_succ]); (refine wpAnyH_take (i := 1) (oi := ⟨some 44, _, _, _, _, _⟩) (v := ?_) rfl (by kernel_rfl) (by kernel_rfl) (by kernel_rfl) (fun _ _ _ h => h) (Or.inl ⟨by rfl, ?_⟩) (by assumption) ?_; rotate_left 1; (focus (intro w hSw; (try dsimp only at hSw); go_simp <;> try (first | (with_reducible rfl) | (rw [if_neg (by omega)]) | (rw [if_pos (by omega)])))); try simp only [Act.put, List.setIfInBounds_toArray, List.set_cons_zero, List.set_cons_succ]); (refine wpAnyH_take (i := 2) (oi := ⟨some 45, _, _, _, _, _⟩) (v := ?_) rfl (by kernel_rfl) (by kernel_rfl) (by kernel_rfl) (fun _ _ _ h => h) (Or.inl ⟨by rfl, ?_⟩) (by assumption) ?_; rotate_left 1; (focus (intro w hSw; (try dsimp only at hSw); go_simp <;> try (first | (with_reducible rfl) | (rw [if_neg (by omega)]) | (rw [if_pos (by omega)])))); try simp only [Act.put, List.setIfInBounds_toArray, List.set_cons_zero, List.set_cons_succ]); (refine wpAnyH_take (i := 3) (oi := ⟨some 46, _, _, _, _, _⟩) (v := ?_) rfl (by kernel_rfl) (by kernel_rfl) (by kernel_rfl) (fun _ _ _ h => h) (Or.inl ⟨by rfl, ?_⟩) (by assumption) ?_; rotate_left 1; (focus (intro w hSw; (try dsimp only at hSw); go_simp <;> try (first | (with_reducible rfl) | (rw [if_neg (by omega)]) | (rw [if_pos (by omega)])))); try simp only [Act.put, List.setIfInBounds_toArray, List.set_cons_zero, List.set_cons_succ]); (refine wpAnyH_take (i := 5) (oi := ⟨some 48, _, _, _, _, _⟩) (v := ?_) rfl (by kernel_rfl) (by kernel_rfl) (by kernel_rfl) (fun _ _ _ h => h) (Or.inl ⟨by rfl, ?_⟩) (by assumption) ?_; rotate_left 1; (focus (intro w hSw; (try dsimp only at hSw); go_simp <;> try (first | (with_reducible rfl) | (rw [if_neg (by omega)]) | (rw [if_pos (by omega)])))); try simp only [Act.put, List.setIfInBounds_toArray, List.set_cons_zero, List.set_cons_succ]); (refine wpAnyH_take (i := 6) (oi := ⟨some 49, _, _, _, _, _⟩) (v := ?_) rfl (by kernel_rfl) (by kernel_rfl) (by kernel_rfl) (fun _ _ _ h => h) (Or.inl ⟨by rfl, ?_⟩) (by assumption) ?_; rotate_left 1; (focus (intro w hSw; (try dsimp only at hSw); go_simp <;> try (first | (with_reducible rfl) | (rw [if_neg (by omega)]) | (rw [if_pos (by omega)])))); try simp only [Act.put, List.setIfInBounds_toArray, List.set_cons_zero, List.set_cons_succ]); (refine wpAnyH_take (i := 8) (oi := ⟨some 51, _, _, _, _, _⟩) (v := ?_) rfl (by kernel_rfl) (by kernel_rfl) (by kernel_rfl) (fun _ _ _ h => h) (Or.inl ⟨by rfl, ?_⟩) (by assumption) ?_; rotate_left 1; (focus (intro w hSw; (try dsimp only at hSw); go_simp <;> try (first | (with_reducible rfl) | (rw [if_neg (by omega)]) | (rw [if_pos (by omega)])))); try simp only [Act.put, List.setIfInBounds_toArray, List.set_cons_zero, List.set_cons_succ]); (refine wpAnyH_take (i := 9) (oi := ⟨some 52, _, _, _, _, _⟩) (v := ?_) rfl (by kernel_rfl) (by kernel_rfl) (by kernel_rfl) (fun _ _ _ h => h) (Or.inl ⟨by rfl, ?_⟩) (by assumption) ?_; rotate_left 1; (focus (intro w hSw; (try dsimp only at hSw); go_simp <;> try (first | (with_reducible rfl) | (rw [if_neg (by omega)]) | (rw [if_pos (by omega)])))); try simp only [Act.put, List.setIfInBounds_toArray, List.set_cons_zero, List.set_cons_succ]))
  refine wpAnyH_ready (rs := [4, 7]) (by kernel_rfl) (by simp) ?_
  refine AllReadyH.cons (o := ⟨some 47, _, _, _, _, _⟩) rfl (fun K hK => ?_) (AllReadyH.cons (o := ⟨some 50, _, _, _, _, _⟩) rfl (fun K hK => ?_) AllReadyH.nil)
  · go_simp
    (refine hK.out _ _ ?_ (fun hHeld => ?_))
    · exact hHeld
    clear hK K
    refine wpAnyH_ready (rs := [7]) (by kernel_rfl) (by simp) ?_
    refine AllReadyH.cons (o := ⟨some 50, _, _, _, _, _⟩) rfl (fun K hK => ?_) AllReadyH.nil
    go_simp
    (refine hK.out _ _ ?_ (fun hHeld => ?_))
    · exact hHeld
    clear hK K
    refine wpAnyH_ready (rs := [10]) (by kernel_rfl) (by simp) ?_
    refine AllReadyH.cons (o := ⟨some 53, _, _, _, _, _⟩) rfl (fun K hK => ?_) AllReadyH.nil
    go_simp
    refine (inflI_t A0 n0 k0 ls A1 n1 k1 vs a b c y hd (.slice (some ⟨ob, oo, none⟩) no ko) (.slice (some ⟨tb, tq, none⟩) nt kt) (.int .i64 (k : Int)) (.int .i64 z) _ hn0 hn1 ((CH1d.out.rd RA.out (by omega)).mono (by first | omega | (simp; done) | (simp; omega))) ((CH1d.out.rd RB.out (by omega)).mono (by first | omega | (simp; done) | (simp; omega))) HB.out HY.out HH.out inn HI.out).mono ?_
    rintro e2 V2 ⟨rfl, B2⟩
    have PB2 := Lib.hid (PB1.out.drew1 B2)
    have CH2 := Lib.hid (CH1.out.thenD B2)
    clear x0 x1 x2 x3 x4 x5 x6 x7 x8
    obtain ⟨s12, ⟨x0, x1, x2, x3, x4, x5, x6, x7, x8⟩, _⟩ := PB2.out
    clear hHeld
    (refine hK.out _ _ ?_ (fun hHeld => ?_))
    · exact ⟨x0, x1, x3, x4, x5, x6, x7, x8⟩
    clear hK K
    ((refine wpAnyH_take (i := 11) (oi := ⟨some 54, _, _, _, _, _⟩) (v := ?_) rfl (by kernel_rfl) (by kernel_rfl) (by kernel_rfl) (fun _ _ _ h => h) (Or.inl ⟨by rfl, ?_⟩) (by assumption) ?_; rotate_left 1; (focus (intro w hSw; (try dsimp only at hSw); go_simp <;> try (first | (with_reducible rfl) | (rw [if_neg (by omega)]) | (rw [if_pos (by omega)])))); try simp only [Act.put, List.setIfInBounds_toArray, List.set_cons_zero, List.set_cons_succ]); (refine wpAnyH_take (i := 12) (oi := ⟨some 55, _, _, _, _, _⟩) (v := ?_) rfl (by kernel_rfl) (by kernel_rfl) (by kernel_rfl) (fun _ _ _ h => h) (Or.inl ⟨by rfl, ?_⟩) (by assumption) ?_; rotate_left 1; (focus (intro w hSw; (try dsimp only at hSw); go_simp <;> try (first | (with_reducible rfl) | (rw [if_neg (by omega)]) | (rw [if_pos (by omega)])))); try simp only [Act.put, List.setIfInBounds_toArray, List.set_cons_zero, List.set_cons_succ]); (refine wpAnyH_take (i := 13) (oi := ⟨some 56, _, _, _, _, _⟩) (v := ?_) rfl (by kernel_rfl) (by kernel_rfl) (by kernel_rfl) (fun _ _ _ h => h) (Or.inl ⟨by rfl, ?_⟩) (by assumption) ?_; rotate_left 1; (focus (intro w hSw; (try dsimp only at hSw); go_simp <;> try (first | (with_reducible rfl) | (rw [if_neg (by omega)]) | (rw [if_pos (by omega)])))); try simp only [Act.put, List.setIfInBounds_toArray, List.set_cons_zero, List.set_cons_succ]); (refine wpAnyH_take (i := 14) (oi := ⟨some 57, _, _, _, _, _⟩) (v := ?_) rfl (by kernel_rfl) (by kernel_rfl) (by kernel_rfl) (fun _ _ _ h => h) (Or.inl ⟨by rfl, ?_⟩) (by assumption) ?_; rotate_left 1; (focus (intro w hSw; (try dsimp only at hSw); go_simp <;> try (first | (with_reducible rfl) | (rw [if_neg (by omega)]) | (rw [if_pos (by omega)])))); try simp only [Act.put, List.setIfInBounds_toArray, List.set_cons_zero, List.set_cons_succ]))
    refine wpAnyH_ready (rs := [15]) (by kernel_rfl) (by simp) ?_
    refine AllReadyH.cons (o := ⟨none, _, _, _, _, _⟩) rfl (fun K hK => ?_) AllReadyH.nil
    go_simp
    have PB3 := Lib.hid (PB2.out.setC (c + inn))
    have CH3 := Lib.hid (CH2.out.set (p := ⟨bk, 2, none⟩) (Nat.le_refl _) (Nat.lt_succ_self _) (.int .i64 (c + inn)))
    obtain ⟨_, ⟨t0, t1, _, t3, t4, t5, t6, t7, t8⟩, _⟩ := PB3.out
    (refine hK.out _ _ ?_ (fun hHeld => ?_))
    · exact ⟨t0, t1, t3, t4, t5, t6, t7, t8⟩
    clear hK K
    refine wpAnyH_done (by kernel_rfl) ?_ _
    exact key _ PB3 CH3
  · go_simp
    (refine hK.out _ _ ?_ (fun hHeld => ?_))
    · exact hHeld
    clear hK K
    refine wpAnyH_ready (rs := [4, 10]) (by kernel_rfl) (by simp) ?_
    refine AllReadyH.cons (o := ⟨some 47, _, _, _, _, _⟩) rfl (fun K hK => ?_) (AllReadyH.cons (o := ⟨some 53, _, _, _, _, _⟩) rfl (fun K hK => ?_) AllReadyH.nil)
    · go_simp
      (refine hK.out _ _ ?_ (fun hHeld => ?_))
      · exact hHeld
      clear hK K
      refine wpAnyH_ready (rs := [10]) (by kernel_rfl) (by simp) ?_
      refine AllReadyH.cons (o := ⟨some 53, _, _, _, _, _⟩) rfl (fun K hK => ?_) AllReadyH.nil
      go_simp
      refine (inflI_t A0 n0 k0 ls A1 n1 k1 vs a b c y hd (.slice (some ⟨ob, oo, none⟩) no ko) (.slice (some ⟨tb, tq, none⟩) nt kt) (.int .i64 (k : Int)) (.int .i64 z) _ hn0 hn1 ((CH1d.out.rd RA.out (by omega)).mono (by first | omega | (simp; done) | (simp; omega))) ((CH1d.out.rd RB.out (by omega)).mono (by first | omega | (simp; done) | (simp; omega))) HB.out HY.out HH.out inn HI.out).mono ?_
      rintro e2 V2 ⟨rfl, B2⟩
      have PB2 := Lib.hid (PB1.out.drew1 B2)
      have CH2 := Lib.hid (CH1.out.thenD B2)
      clear x0 x1 x2 x3 x4 x5 x6 x7 x8
      obtain ⟨s12, ⟨x0, x1, x2, x3, x4, x5, x6, x7, x8⟩, _⟩ := PB2.out
      clear hHeld
      (refine hK.out _ _ ?_ (fun hHeld => ?_))
      · exact ⟨x0, x1, x3, x4, x5, x6, x7, x8⟩
      clear hK K
      ((refine wpAnyH_take (i := 11) (oi := ⟨some 54, _, _, _, _, _⟩) (v := ?_) rfl (by kernel_rfl) (by kernel_rfl) (by kernel_rfl) (fun _ _ _ h => h) (Or.inl ⟨by rfl, ?_⟩) (by assumption) ?_; rotate_left 1; (focus (intro w hSw; (try dsimp only at hSw); go_simp <;> try (first | (with_reducible rfl) | (rw [if_neg (by omega)]) | (rw [if_pos (by omega)])))); try simp only [Act.put, List.setIfInBounds_toArray, List.set_cons_zero, List.set_cons_succ]); (refine wpAnyH_take (i := 12) (oi := ⟨some 55, _, _, _, _, _⟩) (v := ?_) rfl (by kernel_rfl) (by kernel_rfl) (by kernel_rfl) (fun _ _ _ h => h) (Or.inl ⟨by rfl, ?_⟩) (by assumption) ?_; rotate_left 1; (focus (intro w hSw; (try dsimp only at hSw); go_simp <;> try (first | (with_reducible rfl) | (rw [if_neg (by omega)]) | (rw [if_pos (by omega)])))); try simp only [Act.put, List.setIfInBounds_toArray, List.set_cons_zero, List.set_cons_succ]); (refine wpAnyH_take (i := 13) (oi := ⟨some 56, _, _, _, _, _⟩) (v := ?_) rfl (by kernel_rfl) (by kernel_rfl) (by kernel_rfl) (fun _ _ _ h => h) (Or.inl ⟨by rfl, ?_⟩) (by assumption) ?_; rotate_left 1; (focus (intro w hSw; (try dsimp only at hSw); go_simp <;> try (first | (with_reducible rfl) | (rw [if_neg (by omega)]) | (rw [if_pos (by omega)])))); try simp only [Act.put, List.setIfInBounds_toArray, List.set_cons_zero, List.set_cons_succ]); (refine wpAnyH_take (i := 14) (oi := ⟨some 57, _, _, _, _, _⟩) (v := ?_) rfl (by kernel_rfl) (by kernel_rfl) (by kernel_rfl) (fun _ _ _ h => h) (Or.inl ⟨by rfl, ?_⟩) (by assumption) ?_; rotate_left 1; (focus (intro w hSw; (try dsimp only at hSw); go_simp <;> try (first | (with_reducible rfl) | (rw [if_neg (by omega)]) | (rw [if_pos (by omega)])))); try simp only [Act.put, List.setIfInBounds_toArray, List.set_cons_zero, List.set_cons_succ]))
      refine wpAnyH_ready (rs := [15]) (by kernel_rfl) (by simp) ?_
      refine AllReadyH.cons (o := ⟨none, _, _, _, _, _⟩) rfl (fun K hK => ?_) AllReadyH.nil
      go_simp
      have PB3 := Lib.hid (PB2.out.setC (c + inn))
      have CH3 := Lib.hid (CH2.out.set (p := ⟨bk, 2, none⟩) (Nat.le_refl _) (Nat.lt_succ_self _) (.int .i64 (c + inn)))
      obtain ⟨_, ⟨t0, t1, _, t3, t4, t5, t6, t7, t8⟩, _⟩ := PB3.out
      (refine hK.out _ _ ?_ (fun hHeld => ?_))
      · exact ⟨t0, t1, t3, t4, t5, t6, t7, t8⟩
      clear hK K
      refine wpAnyH_done (by kernel_rfl) ?_ _
      exact key _ PB3 CH3
    · go_simp
      refine (inflI_t A0 n0 k0 ls A1 n1 k1 vs a b c y hd (.slice (some ⟨ob, oo, none⟩) no ko) (.slice (some ⟨tb, tq, none⟩) nt kt) (.int .i64 (k : Int)) (.int .i64 z) _ hn0 hn1 ((CH1d.out.rd RA.out (by omega)).mono (by first | omega | (simp; done) | (simp; omega))) ((CH1d.out.rd RB.out (by omega)).mono (by first | omega | (simp; done) | (simp; omega))) HB.out HY.out HH.out inn HI.out).mono ?_
      rintro e2 V2 ⟨rfl, B2⟩
      have PB2 := Lib.hid (PB1.out.drew1 B2)
      have CH2 := Lib.hid (CH1.out.thenD B2)
      clear x0 x1 x2 x3 x4 x5 x6 x7 x8
      obtain ⟨s12, ⟨x0, x1, x2, x3, x4, x5, x6, x7, x8⟩, _⟩ := PB2.out
      clear hHeld
      (refine hK.out _ _ ?_ (fun hHeld => ?_))
      · exact ⟨x0, x1, x3, x4, x5, x6, x7, x8⟩
      clear hK K
      refine wpAnyH_ready (rs := [4]) (by kernel_rfl) (by simp) ?_
      refine AllReadyH.cons (o := ⟨some 47, _, _, _, _, _⟩) rfl (fun K hK => ?_) AllReadyH.nil
      go_simp
      (refine hK.out _ _ ?_ (fun hHeld => ?_))
      · exact hHeld
      clear hK K
      ((refine wpAnyH_take (i := 11) (oi := ⟨some 54, _, _, _, _, _⟩) (v := ?_) rfl (by kernel_rfl) (by kernel_rfl) (by kernel_rfl) (fun _ _ _ h => h) (Or.inl ⟨by rfl, ?_⟩) (by assumption) ?_; rotate_left 1; (focus (intro w hSw; (try dsimp only at hSw); go_simp <;> try (first | (with_reducible rfl) | (rw [if_neg (by omega)]) | (rw [if_pos (by omega)])))); try simp only [Act.put, List.setIfInBounds_toArray, List.set_cons_zero, List.set_cons_succ]); (refine wpAnyH_take (i := 12) (oi := ⟨some 55, _, _, _, _, _⟩) (v := ?_) rfl (by kernel_rfl) (by kernel_rfl) (by kernel_rfl) (fun _ _ _ h => h) (Or.inl ⟨by rfl, ?_⟩) (by assumption) ?_; rotate_left 1; (focus (intro w hSw; (try dsimp only at hSw); go_simp <;> try (first | (with_reducible rfl) | (rw [if_neg (by omega)]) | (rw [if_pos (by omega)])))); try simp only [Act.put, List.setIfInBounds_toArray, List.set_cons_zero, List.set_cons_succ]); (refine wpAnyH_take (i := 13) (oi := ⟨some 56, _, _, _, _, _⟩) (v := ?_) rfl (by kernel_rfl) (by kernel_rfl) (by kernel_rfl) (fun _ _ _ h => h) (Or.inl ⟨by rfl, ?_⟩) (by assumption) ?_; rotate_left 1; (focus (intro w hSw; (try dsimp only at hSw); go_simp <;> try (first | (with_reducible rfl) | (rw [if_neg (by omega)]) | (rw [if_pos (by omega)])))); try simp only [Act.put, List.setIfInBounds_toArray, List.set_cons_zero, List.set_cons_succ]); (refine wpAnyH_take (i := 14) (oi := ⟨some 57, _, _, _, _, _⟩) (v := ?_) rfl (by kernel_rfl) (by kernel_rfl) (by kernel_rfl) (fun _ _ _ h => h) (Or.inl ⟨by rfl, ?_⟩) (by assumption) ?_; rotate_left 1; (focus (intro w hSw; (try dsimp only at hSw); go_simp <;> try (first | (with_reducible rfl) | (rw [if_neg (by omega)]) | (rw [if_pos (by omega)])))); try simp only [Act.put, List.setIfInBounds_toArray, List.set_cons_zero, List.set_cons_succ]))
      refine wpAnyH_ready (rs := [15]) (by kernel_rfl) (by simp) ?_
      refine AllReadyH.cons (o := ⟨none, _, _, _, _, _⟩) rfl (fun K hK => ?_) AllReadyH.nil
      go_simp
      have PB3 := Lib.hid (PB2.out.setC (c + inn))
      have CH3 := Lib.hid (CH2.out.set (p := ⟨bk, 2, none⟩) (Nat.le_refl _) (Nat.lt_succ_self _) (.int .i64 (c + inn)))
      obtain ⟨_, ⟨t0, t1, _, t3, t4, t5, t6, t7, t8⟩, _⟩ := PB3.out
      (refine hK.out _ _ ?_ (fun hHeld => ?_))
      · exact ⟨t0, t1, t3, t4, t5, t6, t7, t8⟩
      clear hK K
      refine wpAnyH_done (by kernel_rfl) ?_ _
      exact key _ PB3 CH3


end Go.Proofs.YtckhfkgldemcnaaDoor
