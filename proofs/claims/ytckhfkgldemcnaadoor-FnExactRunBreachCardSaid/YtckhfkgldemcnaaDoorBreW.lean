/- Breaches: a polder with as many stones in each hour. -/
import Derived.Test.YtckhfkgldemcnaaDoorBreI
import Derived.Test.YtckhfkgldemcnaaDoorRep
namespace Go.Proofs.YtckhfkgldemcnaaDoor
open Go.RowKit

theorem nine_back {w : World} {r : Nat} {v0 v1 v2 v3 v4 v5 v6 v7 v8 o0 o1 o2 o3 o4 o5 o6 o7 o8 : Value} (h0 : w.cell? ⟨r, 0, none⟩ = some o0) (h1 : w.cell? ⟨r, 1, none⟩ = some o1) (h2 : w.cell? ⟨r, 2, none⟩ = some o2) (h3 : w.cell? ⟨r, 3, none⟩ = some o3) (h4 : w.cell? ⟨r, 4, none⟩ = some o4) (h5 : w.cell? ⟨r, 5, none⟩ = some o5) (h6 : w.cell? ⟨r, 6, none⟩ = some o6) (h7 : w.cell? ⟨r, 7, none⟩ = some o7) (h8 : w.cell? ⟨r, 8, none⟩ = some o8) :
    (((((((((w.setCell ⟨r, 0, none⟩ v0).setCell ⟨r, 1, none⟩ v1).setCell ⟨r, 2, none⟩ v2).setCell ⟨r, 3, none⟩ v3).setCell ⟨r, 4, none⟩ v4).setCell ⟨r, 5, none⟩ v5).setCell ⟨r, 6, none⟩ v6).setCell ⟨r, 7, none⟩ v7).setCell ⟨r, 8, none⟩ v8).cell? ⟨r, 0, none⟩ = some v0 ∧ (((((((((w.setCell ⟨r, 0, none⟩ v0).setCell ⟨r, 1, none⟩ v1).setCell ⟨r, 2, none⟩ v2).setCell ⟨r, 3, none⟩ v3).setCell ⟨r, 4, none⟩ v4).setCell ⟨r, 5, none⟩ v5).setCell ⟨r, 6, none⟩ v6).setCell ⟨r, 7, none⟩ v7).setCell ⟨r, 8, none⟩ v8).cell? ⟨r, 1, none⟩ = some v1 ∧ (((((((((w.setCell ⟨r, 0, none⟩ v0).setCell ⟨r, 1, none⟩ v1).setCell ⟨r, 2, none⟩ v2).setCell ⟨r, 3, none⟩ v3).setCell ⟨r, 4, none⟩ v4).setCell ⟨r, 5, none⟩ v5).setCell ⟨r, 6, none⟩ v6).setCell ⟨r, 7, none⟩ v7).setCell ⟨r, 8, none⟩ v8).cell? ⟨r, 2, none⟩ = some v2 ∧ (((((((((w.setCell ⟨r, 0, none⟩ v0).setCell ⟨r, 1, none⟩ v1).setCell ⟨r, 2, none⟩ v2).setCell ⟨r, 3, none⟩ v3).setCell ⟨r, 4, none⟩ v4).setCell ⟨r, 5, none⟩ v5).setCell ⟨r, 6, none⟩ v6).setCell ⟨r, 7, none⟩ v7).setCell ⟨r, 8, none⟩ v8).cell? ⟨r, 3, none⟩ = some v3 ∧ (((((((((w.setCell ⟨r, 0, none⟩ v0).setCell ⟨r, 1, none⟩ v1).setCell ⟨r, 2, none⟩ v2).setCell ⟨r, 3, none⟩ v3).setCell ⟨r, 4, none⟩ v4).setCell ⟨r, 5, none⟩ v5).setCell ⟨r, 6, none⟩ v6).setCell ⟨r, 7, none⟩ v7).setCell ⟨r, 8, none⟩ v8).cell? ⟨r, 4, none⟩ = some v4 ∧ (((((((((w.setCell ⟨r, 0, none⟩ v0).setCell ⟨r, 1, none⟩ v1).setCell ⟨r, 2, none⟩ v2).setCell ⟨r, 3, none⟩ v3).setCell ⟨r, 4, none⟩ v4).setCell ⟨r, 5, none⟩ v5).setCell ⟨r, 6, none⟩ v6).setCell ⟨r, 7, none⟩ v7).setCell ⟨r, 8, none⟩ v8).cell? ⟨r, 5, none⟩ = some v5 ∧ (((((((((w.setCell ⟨r, 0, none⟩ v0).setCell ⟨r, 1, none⟩ v1).setCell ⟨r, 2, none⟩ v2).setCell ⟨r, 3, none⟩ v3).setCell ⟨r, 4, none⟩ v4).setCell ⟨r, 5, none⟩ v5).setCell ⟨r, 6, none⟩ v6).setCell ⟨r, 7, none⟩ v7).setCell ⟨r, 8, none⟩ v8).cell? ⟨r, 6, none⟩ = some v6 ∧ (((((((((w.setCell ⟨r, 0, none⟩ v0).setCell ⟨r, 1, none⟩ v1).setCell ⟨r, 2, none⟩ v2).setCell ⟨r, 3, none⟩ v3).setCell ⟨r, 4, none⟩ v4).setCell ⟨r, 5, none⟩ v5).setCell ⟨r, 6, none⟩ v6).setCell ⟨r, 7, none⟩ v7).setCell ⟨r, 8, none⟩ v8).cell? ⟨r, 7, none⟩ = some v7 ∧ (((((((((w.setCell ⟨r, 0, none⟩ v0).setCell ⟨r, 1, none⟩ v1).setCell ⟨r, 2, none⟩ v2).setCell ⟨r, 3, none⟩ v3).setCell ⟨r, 4, none⟩ v4).setCell ⟨r, 5, none⟩ v5).setCell ⟨r, 6, none⟩ v6).setCell ⟨r, 7, none⟩ v7).setCell ⟨r, 8, none⟩ v8).cell? ⟨r, 8, none⟩ = some v8 := by
  have n : ∀ {i j : Nat}, i ≠ j → (⟨r, i, none⟩ : Addr) ≠ ⟨r, j, none⟩ := fun h e => h (by injection e)
  refine ⟨?_, ?_, ?_, ?_, ?_, ?_, ?_, ?_, ?_⟩
  · rw [World.cell?_setCell_other _ _ _ _ (n (by decide))]
    rw [World.cell?_setCell_other _ _ _ _ (n (by decide))]
    rw [World.cell?_setCell_other _ _ _ _ (n (by decide))]
    rw [World.cell?_setCell_other _ _ _ _ (n (by decide))]
    rw [World.cell?_setCell_other _ _ _ _ (n (by decide))]
    rw [World.cell?_setCell_other _ _ _ _ (n (by decide))]
    rw [World.cell?_setCell_other _ _ _ _ (n (by decide))]
    rw [World.cell?_setCell_other _ _ _ _ (n (by decide))]
    refine World.cell?_setCell_same _ _ _ (u := o0) ?_
    exact h0
  · rw [World.cell?_setCell_other _ _ _ _ (n (by decide))]
    rw [World.cell?_setCell_other _ _ _ _ (n (by decide))]
    rw [World.cell?_setCell_other _ _ _ _ (n (by decide))]
    rw [World.cell?_setCell_other _ _ _ _ (n (by decide))]
    rw [World.cell?_setCell_other _ _ _ _ (n (by decide))]
    rw [World.cell?_setCell_other _ _ _ _ (n (by decide))]
    rw [World.cell?_setCell_other _ _ _ _ (n (by decide))]
    refine World.cell?_setCell_same _ _ _ (u := o1) ?_
    rw [World.cell?_setCell_other _ _ _ _ (n (by decide))]
    exact h1
  · rw [World.cell?_setCell_other _ _ _ _ (n (by decide))]
    rw [World.cell?_setCell_other _ _ _ _ (n (by decide))]
    rw [World.cell?_setCell_other _ _ _ _ (n (by decide))]
    rw [World.cell?_setCell_other _ _ _ _ (n (by decide))]
    rw [World.cell?_setCell_other _ _ _ _ (n (by decide))]
    rw [World.cell?_setCell_other _ _ _ _ (n (by decide))]
    refine World.cell?_setCell_same _ _ _ (u := o2) ?_
    rw [World.cell?_setCell_other _ _ _ _ (n (by decide))]
    rw [World.cell?_setCell_other _ _ _ _ (n (by decide))]
    exact h2
  · rw [World.cell?_setCell_other _ _ _ _ (n (by decide))]
    rw [World.cell?_setCell_other _ _ _ _ (n (by decide))]
    rw [World.cell?_setCell_other _ _ _ _ (n (by decide))]
    rw [World.cell?_setCell_other _ _ _ _ (n (by decide))]
    rw [World.cell?_setCell_other _ _ _ _ (n (by decide))]
    refine World.cell?_setCell_same _ _ _ (u := o3) ?_
    rw [World.cell?_setCell_other _ _ _ _ (n (by decide))]
    rw [World.cell?_setCell_other _ _ _ _ (n (by decide))]
    rw [World.cell?_setCell_other _ _ _ _ (n (by decide))]
    exact h3
  · rw [World.cell?_setCell_other _ _ _ _ (n (by decide))]
    rw [World.cell?_setCell_other _ _ _ _ (n (by decide))]
    rw [World.cell?_setCell_other _ _ _ _ (n (by decide))]
    rw [World.cell?_setCell_other _ _ _ _ (n (by decide))]
    refine World.cell?_setCell_same _ _ _ (u := o4) ?_
    rw [World.cell?_setCell_other _ _ _ _ (n (by decide))]
    rw [World.cell?_setCell_other _ _ _ _ (n (by decide))]
    rw [World.cell?_setCell_other _ _ _ _ (n (by decide))]
    rw [World.cell?_setCell_other _ _ _ _ (n (by decide))]
    exact h4
  · rw [World.cell?_setCell_other _ _ _ _ (n (by decide))]
    rw [World.cell?_setCell_other _ _ _ _ (n (by decide))]
    rw [World.cell?_setCell_other _ _ _ _ (n (by decide))]
    refine World.cell?_setCell_same _ _ _ (u := o5) ?_
    rw [World.cell?_setCell_other _ _ _ _ (n (by decide))]
    rw [World.cell?_setCell_other _ _ _ _ (n (by decide))]
    rw [World.cell?_setCell_other _ _ _ _ (n (by decide))]
    rw [World.cell?_setCell_other _ _ _ _ (n (by decide))]
    rw [World.cell?_setCell_other _ _ _ _ (n (by decide))]
    exact h5
  · rw [World.cell?_setCell_other _ _ _ _ (n (by decide))]
    rw [World.cell?_setCell_other _ _ _ _ (n (by decide))]
    refine World.cell?_setCell_same _ _ _ (u := o6) ?_
    rw [World.cell?_setCell_other _ _ _ _ (n (by decide))]
    rw [World.cell?_setCell_other _ _ _ _ (n (by decide))]
    rw [World.cell?_setCell_other _ _ _ _ (n (by decide))]
    rw [World.cell?_setCell_other _ _ _ _ (n (by decide))]
    rw [World.cell?_setCell_other _ _ _ _ (n (by decide))]
    rw [World.cell?_setCell_other _ _ _ _ (n (by decide))]
    exact h6
  · rw [World.cell?_setCell_other _ _ _ _ (n (by decide))]
    refine World.cell?_setCell_same _ _ _ (u := o7) ?_
    rw [World.cell?_setCell_other _ _ _ _ (n (by decide))]
    rw [World.cell?_setCell_other _ _ _ _ (n (by decide))]
    rw [World.cell?_setCell_other _ _ _ _ (n (by decide))]
    rw [World.cell?_setCell_other _ _ _ _ (n (by decide))]
    rw [World.cell?_setCell_other _ _ _ _ (n (by decide))]
    rw [World.cell?_setCell_other _ _ _ _ (n (by decide))]
    rw [World.cell?_setCell_other _ _ _ _ (n (by decide))]
    exact h7
  · refine World.cell?_setCell_same _ _ _ (u := o8) ?_
    rw [World.cell?_setCell_other _ _ _ _ (n (by decide))]
    rw [World.cell?_setCell_other _ _ _ _ (n (by decide))]
    rw [World.cell?_setCell_other _ _ _ _ (n (by decide))]
    rw [World.cell?_setCell_other _ _ _ _ (n (by decide))]
    rw [World.cell?_setCell_other _ _ _ _ (n (by decide))]
    rw [World.cell?_setCell_other _ _ _ _ (n (by decide))]
    rw [World.cell?_setCell_other _ _ _ _ (n (by decide))]
    rw [World.cell?_setCell_other _ _ _ _ (n (by decide))]
    exact h8

theorem wr_other {w : World} {lo : Nat} {g n : Nat} {xs : List Int} (h : Wr w lo (some ⟨g, 0, none⟩) n xs) {p : Addr} (u : Value) (hp : g ≠ p.block) : Wr (w.setCell p u) lo (some ⟨g, 0, none⟩) n xs :=
  h.grown (gb_setCell w p u) (fun _ e => hp (by injection e))

set_option maxRecDepth 100000 in
set_option maxHeartbeats 3200000 in
theorem pw_t (A0 : Option Addr) (n0 k0 : Nat) (A1 : Option Addr) (n1 k1 : Nat) (a b c s : Int) (O : Option Addr) (no ko : Nat) (w : World) (hno : no ≤ 1048576) :
    Calls Tryd.prog 56 #[.agg #[.slice A0 n0 k0, .slice A1 n1 k1], .agg #[.int .i64 a, .int .i64 b, .int .i64 c], .slice O no ko, .int .i64 s] w fun e w' => e = .returned (.agg #[.int .i64 a, .int .i64 b, .int .i64 c, .slice A0 n0 k0, .slice A1 n1 k1, .slice O no ko, .slice (some ⟨w.heap.size + 1 + 1 + 1 + 1, 0, none⟩) no no, .int .i64 0, .int .i64 0]) ∧ Below w.heap.size w w' ∧ w.heap.size + 1 + 1 + 1 + 1 < w'.heap.size ∧ Wr w' w.heap.size (some ⟨w.heap.size + 1 + 1 + 1 + 1, 0, none⟩) no (List.replicate no s) := by
  go_enter Tryd.func56, Tryd.ntmps56
  go_wp2_with fail
  refine wp_region_held_drew (S := fun w' => w'.cell? ⟨w.heap.size, 0, none⟩ = some (.slice A0 n0 k0) ∧ w'.cell? ⟨w.heap.size, 1, none⟩ = some (.slice A1 n1 k1) ∧ w'.cell? ⟨w.heap.size + 1, 0, none⟩ = some (.int .i64 a) ∧ w'.cell? ⟨w.heap.size + 1, 1, none⟩ = some (.int .i64 b) ∧ w'.cell? ⟨w.heap.size + 1, 2, none⟩ = some (.int .i64 c)) (by kernel_rfl) ⟨by first | (simp; done) | go_simp, by first | (simp; done) | go_simp, by first | (simp; done) | go_simp, by first | (simp; done) | go_simp, by first | (simp; done) | go_simp⟩ (fun hHeld => ?_)
  ((refine wpAnyH_take (i := 0) (oi := ⟨some 9, _, _, _, _, _⟩) (v := ?_) rfl (by kernel_rfl) (by kernel_rfl) (by kernel_rfl) (fun _ _ _ h => h) (Or.inl ⟨by rfl, ?_⟩) (by assumption) ?_; rotate_left 1; (focus (intro w hSw; (try dsimp only at hSw); go_simp <;> try (first | (with_reducible rfl) | (rw [if_neg (by omega)]) | (rw [if_pos (by omega)])))); try simp only [Act.put, List.setIfInBounds_toArray, List.set_cons_zero, List.set_cons_succ]); (refine wpAnyH_take (i := 1) (oi := ⟨some 10, _, _, _, _, _⟩) (v := ?_) rfl (by kernel_rfl) (by kernel_rfl) (by kernel_rfl) (fun _ _ _ h => h) (Or.inl ⟨by rfl, ?_⟩) (by assumption) ?_; rotate_left 1; (focus (intro w hSw; (try dsimp only at hSw); go_simp <;> try (first | (with_reducible rfl) | (rw [if_neg (by omega)]) | (rw [if_pos (by omega)])))); try simp only [Act.put, List.setIfInBounds_toArray, List.set_cons_zero, List.set_cons_succ]); (refine wpAnyH_take (i := 2) (oi := ⟨some 11, _, _, _, _, _⟩) (v := ?_) rfl (by kernel_rfl) (by kernel_rfl) (by kernel_rfl) (fun _ _ _ h => h) (Or.inl ⟨by rfl, ?_⟩) (by assumption) ?_; rotate_left 1; (focus (intro w hSw; (try dsimp only at hSw); go_simp <;> try (first | (with_reducible rfl) | (rw [if_neg (by omega)]) | (rw [if_pos (by omega)])))); try simp only [Act.put, List.setIfInBounds_toArray, List.set_cons_zero, List.set_cons_succ]); (refine wpAnyH_take (i := 3) (oi := ⟨some 12, _, _, _, _, _⟩) (v := ?_) rfl (by kernel_rfl) (by kernel_rfl) (by kernel_rfl) (fun _ _ _ h => h) (Or.inl ⟨by rfl, ?_⟩) (by assumption) ?_; rotate_left 1; (focus (intro w hSw; (try dsimp only at hSw); go_simp <;> try (first | (with_reducible rfl) | (rw [if_neg (by omega)]) | (rw [if_pos (by omega)])))); try simp only [Act.put, List.setIfInBounds_toArray, List.set_cons_zero, List.set_cons_succ]); (refine wpAnyH_take (i := 5) (oi := ⟨some 14, _, _, _, _, _⟩) (v := ?_) rfl (by kernel_rfl) (by kernel_rfl) (by kernel_rfl) (fun _ _ _ h => h) (Or.inl ⟨by rfl, ?_⟩) (by assumption) ?_; rotate_left 1; (focus (intro w hSw; (try dsimp only at hSw); go_simp <;> try (first | (with_reducible rfl) | (rw [if_neg (by omega)]) | (rw [if_pos (by omega)])))); try simp only [Act.put, List.setIfInBounds_toArray, List.set_cons_zero, List.set_cons_succ]))
  refine wpAnyH_ready (rs := [4, 6]) (by kernel_rfl) (by simp) ?_
  refine AllReadyH.cons (o := ⟨some 13, _, _, _, _, _⟩) rfl (fun K hK => ?_) (AllReadyH.cons (o := ⟨some 15, _, _, _, _, _⟩) rfl (fun K hK => ?_) AllReadyH.nil)
  · go_simp
    have t0 := hHeld.1
    have t1 := hHeld.2.1
    have t2 := hHeld.2.2.1
    have t3 := hHeld.2.2.2.1
    have t4 := hHeld.2.2.2.2
    clear hHeld
    (refine hK.out _ _ ?_ (fun hHeld => ?_))
    · exact ⟨((Below.alloc (Below.refl _ _) (Nat.le_refl _) _ : Below _ _ _).cell (p := ⟨w.heap.size, 0, none⟩) (by first | omega | (simp; done) | (simp; omega))).trans t0, ((Below.alloc (Below.refl _ _) (Nat.le_refl _) _ : Below _ _ _).cell (p := ⟨w.heap.size, 1, none⟩) (by first | omega | (simp; done) | (simp; omega))).trans t1, ((Below.alloc (Below.refl _ _) (Nat.le_refl _) _ : Below _ _ _).cell (p := ⟨w.heap.size + 1, 0, none⟩) (by first | omega | (simp; done) | (simp; omega))).trans t2, ((Below.alloc (Below.refl _ _) (Nat.le_refl _) _ : Below _ _ _).cell (p := ⟨w.heap.size + 1, 1, none⟩) (by first | omega | (simp; done) | (simp; omega))).trans t3, ((Below.alloc (Below.refl _ _) (Nat.le_refl _) _ : Below _ _ _).cell (p := ⟨w.heap.size + 1, 2, none⟩) (by first | omega | (simp; done) | (simp; omega))).trans t4⟩
    clear hK K
    try simp only [Act.put, List.setIfInBounds_toArray, List.set_cons_zero, List.set_cons_succ]
    refine wpAnyH_ready (rs := [6]) (by kernel_rfl) (by simp) ?_
    refine AllReadyH.cons (o := ⟨some 15, _, _, _, _, _⟩) rfl (fun K hK => ?_) AllReadyH.nil
    go_simp
    (refine hK.out _ _ ?_ (fun hHeld => ?_))
    · first | exact hHeld | exact ⟨by first | (simp; done) | go_simp, by first | (simp; done) | go_simp, by first | (simp; done) | go_simp, by first | (simp; done) | go_simp, by first | (simp; done) | go_simp⟩
    clear hK K
    refine wpAnyH_ready (rs := [7]) (by kernel_rfl) (by simp) ?_
    refine AllReadyH.cons (o := ⟨some 16, _, _, _, _, _⟩) rfl (fun K hK => ?_) AllReadyH.nil
    go_simp
    refine (rep_t (w.heap.size + 1 + 1 + 1) no s _ hno (by first | (simp; done) | go_simp) (by first | omega | (simp; done) | (simp; omega))).mono ?_
    rintro e1 V ⟨rfl, B1, sV, WR⟩
    have r0 := (B1.cell (p := ⟨w.heap.size, 0, none⟩) (by first | omega | (simp; done) | (simp; omega))).trans hHeld.1
    have r1 := (B1.cell (p := ⟨w.heap.size, 1, none⟩) (by first | omega | (simp; done) | (simp; omega))).trans hHeld.2.1
    have r2 := (B1.cell (p := ⟨w.heap.size + 1, 0, none⟩) (by first | omega | (simp; done) | (simp; omega))).trans hHeld.2.2.1
    have r3 := (B1.cell (p := ⟨w.heap.size + 1, 1, none⟩) (by first | omega | (simp; done) | (simp; omega))).trans hHeld.2.2.2.1
    have r4 := (B1.cell (p := ⟨w.heap.size + 1, 2, none⟩) (by first | omega | (simp; done) | (simp; omega))).trans hHeld.2.2.2.2
    obtain ⟨kz, fz⟩ := bcell B1
    have o0 : V.cell? ⟨w.heap.size + 1 + 1, 0, none⟩ = some (.int .i64 0) := (by rw [kz _ _ (by first | omega | (simp; done) | (simp; omega))]; first | (simp; done) | go_simp); have of0 : V.frozen? ⟨w.heap.size + 1 + 1, 0, none⟩ = false := (by rw [fz _ _ (by first | omega | (simp; done) | (simp; omega))]; first | (simp; done) | go_simp); have o1 : V.cell? ⟨w.heap.size + 1 + 1, 1, none⟩ = some (.int .i64 0) := (by rw [kz _ _ (by first | omega | (simp; done) | (simp; omega))]; first | (simp; done) | go_simp); have of1 : V.frozen? ⟨w.heap.size + 1 + 1, 1, none⟩ = false := (by rw [fz _ _ (by first | omega | (simp; done) | (simp; omega))]; first | (simp; done) | go_simp); have o2 : V.cell? ⟨w.heap.size + 1 + 1, 2, none⟩ = some (.int .i64 0) := (by rw [kz _ _ (by first | omega | (simp; done) | (simp; omega))]; first | (simp; done) | go_simp); have of2 : V.frozen? ⟨w.heap.size + 1 + 1, 2, none⟩ = false := (by rw [fz _ _ (by first | omega | (simp; done) | (simp; omega))]; first | (simp; done) | go_simp); have o3 : V.cell? ⟨w.heap.size + 1 + 1, 3, none⟩ = some (.slice none 0 0) := (by rw [kz _ _ (by first | omega | (simp; done) | (simp; omega))]; first | (simp; done) | go_simp); have of3 : V.frozen? ⟨w.heap.size + 1 + 1, 3, none⟩ = false := (by rw [fz _ _ (by first | omega | (simp; done) | (simp; omega))]; first | (simp; done) | go_simp); have o4 : V.cell? ⟨w.heap.size + 1 + 1, 4, none⟩ = some (.slice none 0 0) := (by rw [kz _ _ (by first | omega | (simp; done) | (simp; omega))]; first | (simp; done) | go_simp); have of4 : V.frozen? ⟨w.heap.size + 1 + 1, 4, none⟩ = false := (by rw [fz _ _ (by first | omega | (simp; done) | (simp; omega))]; first | (simp; done) | go_simp); have o5 : V.cell? ⟨w.heap.size + 1 + 1, 5, none⟩ = some (.slice none 0 0) := (by rw [kz _ _ (by first | omega | (simp; done) | (simp; omega))]; first | (simp; done) | go_simp); have of5 : V.frozen? ⟨w.heap.size + 1 + 1, 5, none⟩ = false := (by rw [fz _ _ (by first | omega | (simp; done) | (simp; omega))]; first | (simp; done) | go_simp); have o6 : V.cell? ⟨w.heap.size + 1 + 1, 6, none⟩ = some (.slice none 0 0) := (by rw [kz _ _ (by first | omega | (simp; done) | (simp; omega))]; first | (simp; done) | go_simp); have of6 : V.frozen? ⟨w.heap.size + 1 + 1, 6, none⟩ = false := (by rw [fz _ _ (by first | omega | (simp; done) | (simp; omega))]; first | (simp; done) | go_simp); have o7 : V.cell? ⟨w.heap.size + 1 + 1, 7, none⟩ = some (.int .i64 0) := (by rw [kz _ _ (by first | omega | (simp; done) | (simp; omega))]; first | (simp; done) | go_simp); have of7 : V.frozen? ⟨w.heap.size + 1 + 1, 7, none⟩ = false := (by rw [fz _ _ (by first | omega | (simp; done) | (simp; omega))]; first | (simp; done) | go_simp); have o8 : V.cell? ⟨w.heap.size + 1 + 1, 8, none⟩ = some (.int .i64 0) := (by rw [kz _ _ (by first | omega | (simp; done) | (simp; omega))]; first | (simp; done) | go_simp); have of8 : V.frozen? ⟨w.heap.size + 1 + 1, 8, none⟩ = false := (by rw [fz _ _ (by first | omega | (simp; done) | (simp; omega))]; first | (simp; done) | go_simp)
    have HB1 := Lib.hid (show Below w.heap.size w V from (by repeat (first | assumption | exact Below.refl _ _ | (refine Below.trans ?_ (B1.mono (by first | omega | (simp; done) | (simp; omega)))) | (refine Below.setCell ?_ (by first | omega | (simp; done) | (simp; omega)) _) | apply below_drewN | apply Below.drew | (refine Below.alloc ?_ (by first | omega | (simp; done) | (simp; omega)) _))))
    have SV := Lib.hid (show w.heap.size + 1 + 1 + 1 + 1 < V.heap.size by (try simp at sV); omega)
    have WRH := Lib.hid (show Wr V w.heap.size (some ⟨w.heap.size + 1 + 1 + 1 + 1, 0, none⟩) no (List.replicate no s) from (by have h := WR.lower (lo' := w.heap.size) (by first | omega | (simp; done) | (simp; omega)); simpa using h))
    clear kz fz WR sV B1
    clear hHeld
    (refine hK.out _ _ ?_ (fun hHeld => ?_))
    · exact ⟨r0, r1, r2, r3, r4⟩
    clear hK K
    ((refine wpAnyH_take (i := 8) (oi := ⟨some 17, _, _, _, _, _⟩) (v := ?_) rfl (by kernel_rfl) (by kernel_rfl) (by kernel_rfl) (fun _ _ _ h => h) (Or.inl ⟨by rfl, ?_⟩) (by assumption) ?_; rotate_left 1; (focus (intro w hSw; (try dsimp only at hSw); go_simp <;> try (first | (with_reducible rfl) | (rw [if_neg (by omega)]) | (rw [if_pos (by omega)])))); try simp only [Act.put, List.setIfInBounds_toArray, List.set_cons_zero, List.set_cons_succ]))
    refine wpAnyH_ready (rs := [9]) (by kernel_rfl) (by simp) ?_
    refine AllReadyH.cons (o := ⟨none, _, _, _, _, _⟩) rfl (fun K hK => ?_) AllReadyH.nil
    go_simp
    (refine hK.out _ _ ?_ (fun hHeld => ?_))
    · exact ⟨(by first | (simp [r0]; done) | go_simp), (by first | (simp [r1]; done) | go_simp), (by first | (simp [r2]; done) | go_simp), (by first | (simp [r3]; done) | go_simp), (by first | (simp [r4]; done) | go_simp)⟩
    clear hK K
    refine wpAnyH_done (by kernel_rfl) ?_ _
    have SVo := SV.out
    have PZ := nine_back (w := V) (r := w.heap.size + 1 + 1) (v0 := .int .i64 a) (v1 := .int .i64 b) (v2 := .int .i64 c) (v3 := .slice A0 n0 k0) (v4 := .slice A1 n1 k1) (v5 := .slice O no ko) (v6 := .slice (some ⟨w.heap.size + 1 + 1 + 1 + 1, 0, none⟩) no no) (v7 := .int .i64 0) (v8 := .int .i64 0) o0 o1 o2 o3 o4 o5 o6 o7 o8
    have le9 : ∀ j, w.heap.size ≤ (⟨w.heap.size + 1 + 1, j, none⟩ : Addr).block := fun j => (show w.heap.size ≤ w.heap.size + 1 + 1 by omega)
    have DZ : Below w.heap.size w (((((((((V.setCell ⟨w.heap.size + 1 + 1, 0, none⟩ (.int .i64 a)).setCell ⟨w.heap.size + 1 + 1, 1, none⟩ (.int .i64 b)).setCell ⟨w.heap.size + 1 + 1, 2, none⟩ (.int .i64 c)).setCell ⟨w.heap.size + 1 + 1, 3, none⟩ (.slice A0 n0 k0)).setCell ⟨w.heap.size + 1 + 1, 4, none⟩ (.slice A1 n1 k1)).setCell ⟨w.heap.size + 1 + 1, 5, none⟩ (.slice O no ko)).setCell ⟨w.heap.size + 1 + 1, 6, none⟩ (.slice (some ⟨w.heap.size + 1 + 1 + 1 + 1, 0, none⟩) no no)).setCell ⟨w.heap.size + 1 + 1, 7, none⟩ (.int .i64 0)).setCell ⟨w.heap.size + 1 + 1, 8, none⟩ (.int .i64 0)) := (((((((((HB1.out.setCell (le9 0) _).setCell (le9 1) _).setCell (le9 2) _).setCell (le9 3) _).setCell (le9 4) _).setCell (le9 5) _).setCell (le9 6) _).setCell (le9 7) _).setCell (le9 8) _)
    have SZ : w.heap.size + 1 + 1 + 1 + 1 < (((((((((V.setCell ⟨w.heap.size + 1 + 1, 0, none⟩ (.int .i64 a)).setCell ⟨w.heap.size + 1 + 1, 1, none⟩ (.int .i64 b)).setCell ⟨w.heap.size + 1 + 1, 2, none⟩ (.int .i64 c)).setCell ⟨w.heap.size + 1 + 1, 3, none⟩ (.slice A0 n0 k0)).setCell ⟨w.heap.size + 1 + 1, 4, none⟩ (.slice A1 n1 k1)).setCell ⟨w.heap.size + 1 + 1, 5, none⟩ (.slice O no ko)).setCell ⟨w.heap.size + 1 + 1, 6, none⟩ (.slice (some ⟨w.heap.size + 1 + 1 + 1 + 1, 0, none⟩) no no)).setCell ⟨w.heap.size + 1 + 1, 7, none⟩ (.int .i64 0)).setCell ⟨w.heap.size + 1 + 1, 8, none⟩ (.int .i64 0)).heap.size := by simpa [World.setCell] using SVo
    have WZ := WRH.out
    have WZ := wr_other WZ (p := ⟨w.heap.size + 1 + 1, 0, none⟩) (.int .i64 a) (by show w.heap.size + 1 + 1 + 1 + 1 ≠ w.heap.size + 1 + 1; omega)
    have WZ := wr_other WZ (p := ⟨w.heap.size + 1 + 1, 1, none⟩) (.int .i64 b) (by show w.heap.size + 1 + 1 + 1 + 1 ≠ w.heap.size + 1 + 1; omega)
    have WZ := wr_other WZ (p := ⟨w.heap.size + 1 + 1, 2, none⟩) (.int .i64 c) (by show w.heap.size + 1 + 1 + 1 + 1 ≠ w.heap.size + 1 + 1; omega)
    have WZ := wr_other WZ (p := ⟨w.heap.size + 1 + 1, 3, none⟩) (.slice A0 n0 k0) (by show w.heap.size + 1 + 1 + 1 + 1 ≠ w.heap.size + 1 + 1; omega)
    have WZ := wr_other WZ (p := ⟨w.heap.size + 1 + 1, 4, none⟩) (.slice A1 n1 k1) (by show w.heap.size + 1 + 1 + 1 + 1 ≠ w.heap.size + 1 + 1; omega)
    have WZ := wr_other WZ (p := ⟨w.heap.size + 1 + 1, 5, none⟩) (.slice O no ko) (by show w.heap.size + 1 + 1 + 1 + 1 ≠ w.heap.size + 1 + 1; omega)
    have WZ := wr_other WZ (p := ⟨w.heap.size + 1 + 1, 6, none⟩) (.slice (some ⟨w.heap.size + 1 + 1 + 1 + 1, 0, none⟩) no no) (by show w.heap.size + 1 + 1 + 1 + 1 ≠ w.heap.size + 1 + 1; omega)
    have WZ := wr_other WZ (p := ⟨w.heap.size + 1 + 1, 7, none⟩) (.int .i64 0) (by show w.heap.size + 1 + 1 + 1 + 1 ≠ w.heap.size + 1 + 1; omega)
    have WZ := wr_other WZ (p := ⟨w.heap.size + 1 + 1, 8, none⟩) (.int .i64 0) (by show w.heap.size + 1 + 1 + 1 + 1 ≠ w.heap.size + 1 + 1; omega)
    generalize (((((((((V.setCell ⟨w.heap.size + 1 + 1, 0, none⟩ (.int .i64 a)).setCell ⟨w.heap.size + 1 + 1, 1, none⟩ (.int .i64 b)).setCell ⟨w.heap.size + 1 + 1, 2, none⟩ (.int .i64 c)).setCell ⟨w.heap.size + 1 + 1, 3, none⟩ (.slice A0 n0 k0)).setCell ⟨w.heap.size + 1 + 1, 4, none⟩ (.slice A1 n1 k1)).setCell ⟨w.heap.size + 1 + 1, 5, none⟩ (.slice O no ko)).setCell ⟨w.heap.size + 1 + 1, 6, none⟩ (.slice (some ⟨w.heap.size + 1 + 1 + 1 + 1, 0, none⟩) no no)).setCell ⟨w.heap.size + 1 + 1, 7, none⟩ (.int .i64 0)).setCell ⟨w.heap.size + 1 + 1, 8, none⟩ (.int .i64 0)) = Z at PZ DZ SZ WZ ⊢
    obtain ⟨p0, p1, p2, p3, p4, p5, p6, p7, p8⟩ := PZ
    go_wp2
    exact bodyPost_ret (v := .agg #[.int .i64 a, .int .i64 b, .int .i64 c, .slice A0 n0 k0, .slice A1 n1 k1, .slice O no ko, .slice (some ⟨w.heap.size + 1 + 1 + 1 + 1, 0, none⟩) no no, .int .i64 0, .int .i64 0]) (by simp [results, Tryd.results56, go_sem, p0, p1, p2, p3, p4, p5, p6, p7, p8]) rfl ⟨rfl, DZ, SZ, WZ⟩
  · go_simp
    (refine hK.out _ _ ?_ (fun hHeld => ?_))
    · first | exact hHeld | exact ⟨by first | (simp; done) | go_simp, by first | (simp; done) | go_simp, by first | (simp; done) | go_simp, by first | (simp; done) | go_simp, by first | (simp; done) | go_simp⟩
    clear hK K
    refine wpAnyH_ready (rs := [4]) (by kernel_rfl) (by simp) ?_
    refine AllReadyH.cons (o := ⟨some 13, _, _, _, _, _⟩) rfl (fun K hK => ?_) AllReadyH.nil
    go_simp
    have t0 := hHeld.1
    have t1 := hHeld.2.1
    have t2 := hHeld.2.2.1
    have t3 := hHeld.2.2.2.1
    have t4 := hHeld.2.2.2.2
    clear hHeld
    (refine hK.out _ _ ?_ (fun hHeld => ?_))
    · exact ⟨((Below.alloc (Below.refl _ _) (Nat.le_refl _) _ : Below _ _ _).cell (p := ⟨w.heap.size, 0, none⟩) (by first | omega | (simp; done) | (simp; omega))).trans t0, ((Below.alloc (Below.refl _ _) (Nat.le_refl _) _ : Below _ _ _).cell (p := ⟨w.heap.size, 1, none⟩) (by first | omega | (simp; done) | (simp; omega))).trans t1, ((Below.alloc (Below.refl _ _) (Nat.le_refl _) _ : Below _ _ _).cell (p := ⟨w.heap.size + 1, 0, none⟩) (by first | omega | (simp; done) | (simp; omega))).trans t2, ((Below.alloc (Below.refl _ _) (Nat.le_refl _) _ : Below _ _ _).cell (p := ⟨w.heap.size + 1, 1, none⟩) (by first | omega | (simp; done) | (simp; omega))).trans t3, ((Below.alloc (Below.refl _ _) (Nat.le_refl _) _ : Below _ _ _).cell (p := ⟨w.heap.size + 1, 2, none⟩) (by first | omega | (simp; done) | (simp; omega))).trans t4⟩
    clear hK K
    try simp only [Act.put, List.setIfInBounds_toArray, List.set_cons_zero, List.set_cons_succ]
    refine wpAnyH_ready (rs := [7]) (by kernel_rfl) (by simp) ?_
    refine AllReadyH.cons (o := ⟨some 16, _, _, _, _, _⟩) rfl (fun K hK => ?_) AllReadyH.nil
    go_simp
    refine (rep_t (w.heap.size + 1 + 1 + 1) no s _ hno (by first | (simp; done) | go_simp) (by first | omega | (simp; done) | (simp; omega))).mono ?_
    rintro e1 V ⟨rfl, B1, sV, WR⟩
    have r0 := (B1.cell (p := ⟨w.heap.size, 0, none⟩) (by first | omega | (simp; done) | (simp; omega))).trans hHeld.1
    have r1 := (B1.cell (p := ⟨w.heap.size, 1, none⟩) (by first | omega | (simp; done) | (simp; omega))).trans hHeld.2.1
    have r2 := (B1.cell (p := ⟨w.heap.size + 1, 0, none⟩) (by first | omega | (simp; done) | (simp; omega))).trans hHeld.2.2.1
    have r3 := (B1.cell (p := ⟨w.heap.size + 1, 1, none⟩) (by first | omega | (simp; done) | (simp; omega))).trans hHeld.2.2.2.1
    have r4 := (B1.cell (p := ⟨w.heap.size + 1, 2, none⟩) (by first | omega | (simp; done) | (simp; omega))).trans hHeld.2.2.2.2
    obtain ⟨kz, fz⟩ := bcell B1
    have o0 : V.cell? ⟨w.heap.size + 1 + 1, 0, none⟩ = some (.int .i64 0) := (by rw [kz _ _ (by first | omega | (simp; done) | (simp; omega))]; first | (simp; done) | go_simp); have of0 : V.frozen? ⟨w.heap.size + 1 + 1, 0, none⟩ = false := (by rw [fz _ _ (by first | omega | (simp; done) | (simp; omega))]; first | (simp; done) | go_simp); have o1 : V.cell? ⟨w.heap.size + 1 + 1, 1, none⟩ = some (.int .i64 0) := (by rw [kz _ _ (by first | omega | (simp; done) | (simp; omega))]; first | (simp; done) | go_simp); have of1 : V.frozen? ⟨w.heap.size + 1 + 1, 1, none⟩ = false := (by rw [fz _ _ (by first | omega | (simp; done) | (simp; omega))]; first | (simp; done) | go_simp); have o2 : V.cell? ⟨w.heap.size + 1 + 1, 2, none⟩ = some (.int .i64 0) := (by rw [kz _ _ (by first | omega | (simp; done) | (simp; omega))]; first | (simp; done) | go_simp); have of2 : V.frozen? ⟨w.heap.size + 1 + 1, 2, none⟩ = false := (by rw [fz _ _ (by first | omega | (simp; done) | (simp; omega))]; first | (simp; done) | go_simp); have o3 : V.cell? ⟨w.heap.size + 1 + 1, 3, none⟩ = some (.slice none 0 0) := (by rw [kz _ _ (by first | omega | (simp; done) | (simp; omega))]; first | (simp; done) | go_simp); have of3 : V.frozen? ⟨w.heap.size + 1 + 1, 3, none⟩ = false := (by rw [fz _ _ (by first | omega | (simp; done) | (simp; omega))]; first | (simp; done) | go_simp); have o4 : V.cell? ⟨w.heap.size + 1 + 1, 4, none⟩ = some (.slice none 0 0) := (by rw [kz _ _ (by first | omega | (simp; done) | (simp; omega))]; first | (simp; done) | go_simp); have of4 : V.frozen? ⟨w.heap.size + 1 + 1, 4, none⟩ = false := (by rw [fz _ _ (by first | omega | (simp; done) | (simp; omega))]; first | (simp; done) | go_simp); have o5 : V.cell? ⟨w.heap.size + 1 + 1, 5, none⟩ = some (.slice none 0 0) := (by rw [kz _ _ (by first | omega | (simp; done) | (simp; omega))]; first | (simp; done) | go_simp); have of5 : V.frozen? ⟨w.heap.size + 1 + 1, 5, none⟩ = false := (by rw [fz _ _ (by first | omega | (simp; done) | (simp; omega))]; first | (simp; done) | go_simp); have o6 : V.cell? ⟨w.heap.size + 1 + 1, 6, none⟩ = some (.slice none 0 0) := (by rw [kz _ _ (by first | omega | (simp; done) | (simp; omega))]; first | (simp; done) | go_simp); have of6 : V.frozen? ⟨w.heap.size + 1 + 1, 6, none⟩ = false := (by rw [fz _ _ (by first | omega | (simp; done) | (simp; omega))]; first | (simp; done) | go_simp); have o7 : V.cell? ⟨w.heap.size + 1 + 1, 7, none⟩ = some (.int .i64 0) := (by rw [kz _ _ (by first | omega | (simp; done) | (simp; omega))]; first | (simp; done) | go_simp); have of7 : V.frozen? ⟨w.heap.size + 1 + 1, 7, none⟩ = false := (by rw [fz _ _ (by first | omega | (simp; done) | (simp; omega))]; first | (simp; done) | go_simp); have o8 : V.cell? ⟨w.heap.size + 1 + 1, 8, none⟩ = some (.int .i64 0) := (by rw [kz _ _ (by first | omega | (simp; done) | (simp; omega))]; first | (simp; done) | go_simp); have of8 : V.frozen? ⟨w.heap.size + 1 + 1, 8, none⟩ = false := (by rw [fz _ _ (by first | omega | (simp; done) | (simp; omega))]; first | (simp; done) | go_simp)
    have HB1 := Lib.hid (show Below w.heap.size w V from (by repeat (first | assumption | exact Below.refl _ _ | (refine Below.trans ?_ (B1.mono (by first | omega | (simp; done) | (simp; omega)))) | (refine Below.setCell ?_ (by first | omega | (simp; done) | (simp; omega)) _) | apply below_drewN | apply Below.drew | (refine Below.alloc ?_ (by first | omega | (simp; done) | (simp; omega)) _))))
    have SV := Lib.hid (show w.heap.size + 1 + 1 + 1 + 1 < V.heap.size by (try simp at sV); omega)
    have WRH := Lib.hid (show Wr V w.heap.size (some ⟨w.heap.size + 1 + 1 + 1 + 1, 0, none⟩) no (List.replicate no s) from (by have h := WR.lower (lo' := w.heap.size) (by first | omega | (simp; done) | (simp; omega)); simpa using h))
    clear kz fz WR sV B1
    clear hHeld
    (refine hK.out _ _ ?_ (fun hHeld => ?_))
    · exact ⟨r0, r1, r2, r3, r4⟩
    clear hK K
    ((refine wpAnyH_take (i := 8) (oi := ⟨some 17, _, _, _, _, _⟩) (v := ?_) rfl (by kernel_rfl) (by kernel_rfl) (by kernel_rfl) (fun _ _ _ h => h) (Or.inl ⟨by rfl, ?_⟩) (by assumption) ?_; rotate_left 1; (focus (intro w hSw; (try dsimp only at hSw); go_simp <;> try (first | (with_reducible rfl) | (rw [if_neg (by omega)]) | (rw [if_pos (by omega)])))); try simp only [Act.put, List.setIfInBounds_toArray, List.set_cons_zero, List.set_cons_succ]))
    refine wpAnyH_ready (rs := [9]) (by kernel_rfl) (by simp) ?_
    refine AllReadyH.cons (o := ⟨none, _, _, _, _, _⟩) rfl (fun K hK => ?_) AllReadyH.nil
    go_simp
    (refine hK.out _ _ ?_ (fun hHeld => ?_))
    · exact ⟨(by first | (simp [r0]; done) | go_simp), (by first | (simp [r1]; done) | go_simp), (by first | (simp [r2]; done) | go_simp), (by first | (simp [r3]; done) | go_simp), (by first | (simp [r4]; done) | go_simp)⟩
    clear hK K
    refine wpAnyH_done (by kernel_rfl) ?_ _
    have SVo := SV.out
    have PZ := nine_back (w := V) (r := w.heap.size + 1 + 1) (v0 := .int .i64 a) (v1 := .int .i64 b) (v2 := .int .i64 c) (v3 := .slice A0 n0 k0) (v4 := .slice A1 n1 k1) (v5 := .slice O no ko) (v6 := .slice (some ⟨w.heap.size + 1 + 1 + 1 + 1, 0, none⟩) no no) (v7 := .int .i64 0) (v8 := .int .i64 0) o0 o1 o2 o3 o4 o5 o6 o7 o8
    have le9 : ∀ j, w.heap.size ≤ (⟨w.heap.size + 1 + 1, j, none⟩ : Addr).block := fun j => (show w.heap.size ≤ w.heap.size + 1 + 1 by omega)
    have DZ : Below w.heap.size w (((((((((V.setCell ⟨w.heap.size + 1 + 1, 0, none⟩ (.int .i64 a)).setCell ⟨w.heap.size + 1 + 1, 1, none⟩ (.int .i64 b)).setCell ⟨w.heap.size + 1 + 1, 2, none⟩ (.int .i64 c)).setCell ⟨w.heap.size + 1 + 1, 3, none⟩ (.slice A0 n0 k0)).setCell ⟨w.heap.size + 1 + 1, 4, none⟩ (.slice A1 n1 k1)).setCell ⟨w.heap.size + 1 + 1, 5, none⟩ (.slice O no ko)).setCell ⟨w.heap.size + 1 + 1, 6, none⟩ (.slice (some ⟨w.heap.size + 1 + 1 + 1 + 1, 0, none⟩) no no)).setCell ⟨w.heap.size + 1 + 1, 7, none⟩ (.int .i64 0)).setCell ⟨w.heap.size + 1 + 1, 8, none⟩ (.int .i64 0)) := (((((((((HB1.out.setCell (le9 0) _).setCell (le9 1) _).setCell (le9 2) _).setCell (le9 3) _).setCell (le9 4) _).setCell (le9 5) _).setCell (le9 6) _).setCell (le9 7) _).setCell (le9 8) _)
    have SZ : w.heap.size + 1 + 1 + 1 + 1 < (((((((((V.setCell ⟨w.heap.size + 1 + 1, 0, none⟩ (.int .i64 a)).setCell ⟨w.heap.size + 1 + 1, 1, none⟩ (.int .i64 b)).setCell ⟨w.heap.size + 1 + 1, 2, none⟩ (.int .i64 c)).setCell ⟨w.heap.size + 1 + 1, 3, none⟩ (.slice A0 n0 k0)).setCell ⟨w.heap.size + 1 + 1, 4, none⟩ (.slice A1 n1 k1)).setCell ⟨w.heap.size + 1 + 1, 5, none⟩ (.slice O no ko)).setCell ⟨w.heap.size + 1 + 1, 6, none⟩ (.slice (some ⟨w.heap.size + 1 + 1 + 1 + 1, 0, none⟩) no no)).setCell ⟨w.heap.size + 1 + 1, 7, none⟩ (.int .i64 0)).setCell ⟨w.heap.size + 1 + 1, 8, none⟩ (.int .i64 0)).heap.size := by simpa [World.setCell] using SVo
    have WZ := WRH.out
    have WZ := wr_other WZ (p := ⟨w.heap.size + 1 + 1, 0, none⟩) (.int .i64 a) (by show w.heap.size + 1 + 1 + 1 + 1 ≠ w.heap.size + 1 + 1; omega)
    have WZ := wr_other WZ (p := ⟨w.heap.size + 1 + 1, 1, none⟩) (.int .i64 b) (by show w.heap.size + 1 + 1 + 1 + 1 ≠ w.heap.size + 1 + 1; omega)
    have WZ := wr_other WZ (p := ⟨w.heap.size + 1 + 1, 2, none⟩) (.int .i64 c) (by show w.heap.size + 1 + 1 + 1 + 1 ≠ w.heap.size + 1 + 1; omega)
    have WZ := wr_other WZ (p := ⟨w.heap.size + 1 + 1, 3, none⟩) (.slice A0 n0 k0) (by show w.heap.size + 1 + 1 + 1 + 1 ≠ w.heap.size + 1 + 1; omega)
    have WZ := wr_other WZ (p := ⟨w.heap.size + 1 + 1, 4, none⟩) (.slice A1 n1 k1) (by show w.heap.size + 1 + 1 + 1 + 1 ≠ w.heap.size + 1 + 1; omega)
    have WZ := wr_other WZ (p := ⟨w.heap.size + 1 + 1, 5, none⟩) (.slice O no ko) (by show w.heap.size + 1 + 1 + 1 + 1 ≠ w.heap.size + 1 + 1; omega)
    have WZ := wr_other WZ (p := ⟨w.heap.size + 1 + 1, 6, none⟩) (.slice (some ⟨w.heap.size + 1 + 1 + 1 + 1, 0, none⟩) no no) (by show w.heap.size + 1 + 1 + 1 + 1 ≠ w.heap.size + 1 + 1; omega)
    have WZ := wr_other WZ (p := ⟨w.heap.size + 1 + 1, 7, none⟩) (.int .i64 0) (by show w.heap.size + 1 + 1 + 1 + 1 ≠ w.heap.size + 1 + 1; omega)
    have WZ := wr_other WZ (p := ⟨w.heap.size + 1 + 1, 8, none⟩) (.int .i64 0) (by show w.heap.size + 1 + 1 + 1 + 1 ≠ w.heap.size + 1 + 1; omega)
    generalize (((((((((V.setCell ⟨w.heap.size + 1 + 1, 0, none⟩ (.int .i64 a)).setCell ⟨w.heap.size + 1 + 1, 1, none⟩ (.int .i64 b)).setCell ⟨w.heap.size + 1 + 1, 2, none⟩ (.int .i64 c)).setCell ⟨w.heap.size + 1 + 1, 3, none⟩ (.slice A0 n0 k0)).setCell ⟨w.heap.size + 1 + 1, 4, none⟩ (.slice A1 n1 k1)).setCell ⟨w.heap.size + 1 + 1, 5, none⟩ (.slice O no ko)).setCell ⟨w.heap.size + 1 + 1, 6, none⟩ (.slice (some ⟨w.heap.size + 1 + 1 + 1 + 1, 0, none⟩) no no)).setCell ⟨w.heap.size + 1 + 1, 7, none⟩ (.int .i64 0)).setCell ⟨w.heap.size + 1 + 1, 8, none⟩ (.int .i64 0)) = Z at PZ DZ SZ WZ ⊢
    obtain ⟨p0, p1, p2, p3, p4, p5, p6, p7, p8⟩ := PZ
    go_wp2
    exact bodyPost_ret (v := .agg #[.int .i64 a, .int .i64 b, .int .i64 c, .slice A0 n0 k0, .slice A1 n1 k1, .slice O no ko, .slice (some ⟨w.heap.size + 1 + 1 + 1 + 1, 0, none⟩) no no, .int .i64 0, .int .i64 0]) (by simp [results, Tryd.results56, go_sem, p0, p1, p2, p3, p4, p5, p6, p7, p8]) rfl ⟨rfl, DZ, SZ, WZ⟩


end Go.Proofs.YtckhfkgldemcnaaDoor
