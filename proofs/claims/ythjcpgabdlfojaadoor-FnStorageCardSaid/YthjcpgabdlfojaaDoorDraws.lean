/- The draws of the law on storage. -/
import Derived.Test.YthjcpgabdlfojaaDoorDraw7
namespace Go.Proofs.YthjcpgabdlfojaaDoor
open Go.RowKit

set_option maxRecDepth 100000 in
set_option maxHeartbeats 6400000 in
theorem drawVolumeAt_t (A : Option Addr) (n c : Nat) (w : World) (h : ByR w A n) (hn : n ≤ 1048576) :
    Calls Tryd.prog 23 #[.slice A n c] w fun e w' => ∃ (A0 : Option Addr) (m0 c0 : Nat) (A1 : Option Addr) (m1 c1 : Nat) (ls vs : List Int) (y : Int), e = .returned (.tuple #[.agg #[.slice A0 m0 c0, .slice A1 m1 c1], .int .i64 y]) ∧ m0 ≤ 13 ∧ m1 ≤ 13 ∧ Wf ls ∧ Wf vs ∧ (Lit.int .i64 y).wf = true ∧ Below w.heap.size w w' ∧ Rd w' w'.heap.size A0 m0 ls ∧ Rd w' w'.heap.size A1 m1 vs := by
  have H := Lib.hid h
  clear h
  go_enter Tryd.func23, Tryd.ntmps23
  go_wp2_with fail
  refine (l00From_d A n c w H.out).mono ?_
  rintro e1 w1 ⟨rfl, D1⟩
  have HD1 := Lib.hid D1
  clear D1
  go_wp2_with fail
  refine (l05Bent_t (w.heap.size + 1) n 0 _ HD1.out.src hn (by omega)).mono ?_
  rintro e2 W2 ⟨A0, m0, c0, A1, m1, c1, k2, ls, vs, rfl, hm0, hm1, f0, f1, x0, x1, S2, hk2, g2⟩
  have D2 := Lib.hid (HD1.out.ds (c0 := c0) (c1 := c1) g2 S2 x0 x1 f0 f1)
  clear f0 f1 x0 x1 S2 g2
  go_wp2_with fail
  generalize W2.alloc (.cells #[.slice A0 m0 c0, .slice A1 m1 c1] 37) = W3 at D2 ⊢
  have E2 := Lib.hid D2.out.drew
  refine wp_region_held_drew (S := fun w' => w'.cell? ⟨W2.heap.size, 0, none⟩ = some (.slice A0 m0 c0) ∧ w'.cell? ⟨W2.heap.size, 1, none⟩ = some (.slice A1 m1 c1)) (by kernel_rfl) ⟨D2.out.box.c0, D2.out.box.c1⟩ (fun hHeld => ?_)
  ((refine wpAnyH_take (i := 0) (oi := ⟨some 10, _, _, _, _, _⟩) (v := ?_) rfl (by kernel_rfl) (by kernel_rfl) (by kernel_rfl) (fun _ _ _ h => h) (Or.inl ⟨by rfl, ?_⟩) (by assumption) ?_; rotate_left 1; (focus (intro w hSw; (try dsimp only at hSw); go_simp <;> try (first | (with_reducible rfl) | (rw [if_neg (by omega)])))); try simp only [Act.put, List.setIfInBounds_toArray, List.set_cons_zero, List.set_cons_succ]); (refine wpAnyH_take (i := 1) (oi := ⟨some 11, _, _, _, _, _⟩) (v := ?_) rfl (by kernel_rfl) (by kernel_rfl) (by kernel_rfl) (fun _ _ _ h => h) (Or.inl ⟨by rfl, ?_⟩) (by assumption) ?_; rotate_left 1; (focus (intro w hSw; (try dsimp only at hSw); go_simp <;> try (first | (with_reducible rfl) | (rw [if_neg (by omega)])))); try simp only [Act.put, List.setIfInBounds_toArray, List.set_cons_zero, List.set_cons_succ]))
  (refine wpAnyH_ready (rs := [2]) (by kernel_rfl) (by simp) ?_; refine AllReadyH.cons rfl (fun K hK => ?_) AllReadyH.nil; go_simp)
  refine (l05At_t (w.heap.size + 1) n k2 W2.heap.size A0 m0 c0 (.slice A1 m1 c1) ls _ E2.out.src hn (by omega) E2.out.box (by have := E2.out.hO; omega) E2.out.w0.rd hm0 E2.out.ne0 E2.out.f0).mono ?_
  rintro e3 X3 ⟨y, k3, rfl, wy, S3, hk3, g3⟩
  have D3 := Lib.hid (E2.out.grown g3 S3)
  have Wy := Lib.hid wy
  clear S3 g3 wy
  have y0 := D3.out.res.c0
  have y1 := D3.out.res.c1
  have yf0 := D3.out.res.f 0
  have yf1 := D3.out.res.f 1
  have hOO := D3.out.hO
  clear hHeld
  (refine hK.out _ _ ?_ (fun hHeld => ?_))
  · exact ⟨D3.out.box.c0, D3.out.box.c1⟩
  (refine wpAnyH_ready (rs := [3]) (by kernel_rfl) (by simp) ?_; refine AllReadyH.cons rfl (fun K hK => ?_) AllReadyH.nil; go_simp)
  have u0 : ((X3.setCell ⟨w.heap.size, 0, none⟩ (.slice A0 m0 c0)).setCell ⟨w.heap.size, 1, none⟩ (.slice A1 m1 c1)).cell? ⟨W2.heap.size, 0, none⟩ = _ := (World.cell?_setCell_other _ _ _ _ (by first | omega | (simp; done) | (simp; omega))).trans ((World.cell?_setCell_other _ _ _ _ (by first | omega | (simp; done) | (simp; omega))).trans D3.out.box.c0)
  have u1 : ((X3.setCell ⟨w.heap.size, 0, none⟩ (.slice A0 m0 c0)).setCell ⟨w.heap.size, 1, none⟩ (.slice A1 m1 c1)).cell? ⟨W2.heap.size, 1, none⟩ = _ := (World.cell?_setCell_other _ _ _ _ (by first | omega | (simp; done) | (simp; omega))).trans ((World.cell?_setCell_other _ _ _ _ (by first | omega | (simp; done) | (simp; omega))).trans D3.out.box.c1)
  (refine hK.out _ _ ?_ (fun hHeld => ?_))
  · exact ⟨u0, u1⟩
  ((refine wpAnyH_take (i := 4) (oi := ⟨some 3, _, _, _, _, _⟩) (v := ?_) rfl (by kernel_rfl) (by kernel_rfl) (by kernel_rfl) (fun _ _ _ h => h) (Or.inl ⟨by rfl, ?_⟩) (by assumption) ?_; rotate_left 1; (focus (intro w hSw; (try dsimp only at hSw); go_simp <;> try (first | (with_reducible rfl) | (rw [if_neg (by omega)])))); try simp only [Act.put, List.setIfInBounds_toArray, List.set_cons_zero, List.set_cons_succ]))
  refine wpAnyH_done (by kernel_rfl) ?_ _
  go_wp2
  obtain ⟨t0, t1, t2, t3, t4⟩ := D3.out.fin
  exact bodyPost_ret (v := .tuple #[.agg #[.slice A0 m0 c0, .slice A1 m1 c1], .int .i64 y]) (by simp [results, Tryd.results23, go_sem, t0, t1]) rfl ⟨A0, m0, c0, A1, m1, c1, ls, vs, y, rfl, hm0, hm1, D3.out.f0, D3.out.f1, Wy.out, t4, t2.rd, t3.rd⟩

set_option maxRecDepth 100000 in
set_option maxHeartbeats 6400000 in
theorem drawSpaceTo_t (A : Option Addr) (n c : Nat) (w : World) (h : ByR w A n) (hn : n ≤ 1048576) :
    Calls Tryd.prog 20 #[.slice A n c] w fun e w' => ∃ (A0 : Option Addr) (m0 c0 : Nat) (A1 : Option Addr) (m1 c1 : Nat) (ls vs : List Int) (y z : Int), e = .returned (.tuple #[.agg #[.slice A0 m0 c0, .slice A1 m1 c1], .int .i64 y, .int .i64 z]) ∧ m0 ≤ 13 ∧ m1 ≤ 13 ∧ Wf ls ∧ Wf vs ∧ (Lit.int .i64 y).wf = true ∧ (Lit.int .i64 z).wf = true ∧ Below w.heap.size w w' ∧ Rd w' w'.heap.size A0 m0 ls ∧ Rd w' w'.heap.size A1 m1 vs := by
  have H := Lib.hid h
  clear h
  go_enter Tryd.func20, Tryd.ntmps20
  go_wp2_with fail
  refine (l00From_d A n c w H.out).mono ?_
  rintro e1 w1 ⟨rfl, D1⟩
  have HD1 := Lib.hid D1
  clear D1
  go_wp2_with fail
  refine (l05Bent_t (w.heap.size + 1) n 0 _ HD1.out.src hn (by omega)).mono ?_
  rintro e2 W2 ⟨A0, m0, c0, A1, m1, c1, k2, ls, vs, rfl, hm0, hm1, f0, f1, x0, x1, S2, hk2, g2⟩
  have D2 := Lib.hid (HD1.out.ds (c0 := c0) (c1 := c1) g2 S2 x0 x1 f0 f1)
  clear f0 f1 x0 x1 S2 g2
  go_wp2_with fail
  generalize W2.alloc (.cells #[.slice A0 m0 c0, .slice A1 m1 c1] 37) = W3 at D2 ⊢
  refine (l05At_t (w.heap.size + 1) n k2 W2.heap.size A0 m0 c0 (.slice A1 m1 c1) ls _ D2.out.src hn (by omega) D2.out.box (by have := D2.out.hO; omega) D2.out.w0.rd hm0 D2.out.ne0 D2.out.f0).mono ?_
  rintro e3 X3 ⟨y, k3, rfl, wy, S3, hk3, g3⟩
  have D3 := Lib.hid (D2.out.grown g3 S3)
  have Wy := Lib.hid wy
  clear S3 g3 wy
  go_wp2_with fail
  have E3 := Lib.hid D3.out.drew
  refine wp_region_held_drew (S := fun w' => w'.cell? ⟨W2.heap.size, 0, none⟩ = some (.slice A0 m0 c0) ∧ w'.cell? ⟨W2.heap.size, 1, none⟩ = some (.slice A1 m1 c1)) (by kernel_rfl) ⟨D3.out.box.c0, D3.out.box.c1⟩ (fun hHeld => ?_)
  ((refine wpAnyH_take (i := 0) (oi := ⟨some 14, _, _, _, _, _⟩) (v := ?_) rfl (by kernel_rfl) (by kernel_rfl) (by kernel_rfl) (fun _ _ _ h => h) (Or.inl ⟨by rfl, ?_⟩) (by assumption) ?_; rotate_left 1; (focus (intro w hSw; (try dsimp only at hSw); go_simp <;> try (first | (with_reducible rfl) | (rw [if_neg (by omega)])))); try simp only [Act.put, List.setIfInBounds_toArray, List.set_cons_zero, List.set_cons_succ]); (refine wpAnyH_take (i := 1) (oi := ⟨some 15, _, _, _, _, _⟩) (v := ?_) rfl (by kernel_rfl) (by kernel_rfl) (by kernel_rfl) (fun _ _ _ h => h) (Or.inl ⟨by rfl, ?_⟩) (by assumption) ?_; rotate_left 1; (focus (intro w hSw; (try dsimp only at hSw); go_simp <;> try (first | (with_reducible rfl) | (rw [if_neg (by omega)])))); try simp only [Act.put, List.setIfInBounds_toArray, List.set_cons_zero, List.set_cons_succ]); (refine wpAnyH_take (i := 2) (oi := ⟨some 16, _, _, _, _, _⟩) (v := ?_) rfl (by kernel_rfl) (by kernel_rfl) (by kernel_rfl) (fun _ _ _ h => h) (Or.inl ⟨by rfl, ?_⟩) (by assumption) ?_; rotate_left 1; (focus (intro w hSw; (try dsimp only at hSw); go_simp <;> try (first | (with_reducible rfl) | (rw [if_neg (by omega)])))); try simp only [Act.put, List.setIfInBounds_toArray, List.set_cons_zero, List.set_cons_succ]))
  (refine wpAnyH_ready (rs := [3]) (by kernel_rfl) (by simp) ?_; refine AllReadyH.cons rfl (fun K hK => ?_) AllReadyH.nil; go_simp)
  refine (l05At_t (w.heap.size + 1) n k3 W2.heap.size A0 m0 c0 (.slice A1 m1 c1) ls _ E3.out.src hn (by omega) E3.out.box (by have := E3.out.hO; omega) E3.out.w0.rd hm0 E3.out.ne0 E3.out.f0).mono ?_
  rintro e4 X4 ⟨z, k4, rfl, wz, S4, hk4, g4⟩
  have D4 := Lib.hid (E3.out.grown g4 S4)
  have Wz := Lib.hid wz
  clear S4 g4 wz
  have y0 := D4.out.res.c0
  have y1 := D4.out.res.c1
  have yf0 := D4.out.res.f 0
  have yf1 := D4.out.res.f 1
  have hOO := D4.out.hO
  clear hHeld
  (refine hK.out _ _ ?_ (fun hHeld => ?_))
  · exact ⟨D4.out.box.c0, D4.out.box.c1⟩
  (refine wpAnyH_ready (rs := [4]) (by kernel_rfl) (by simp) ?_; refine AllReadyH.cons rfl (fun K hK => ?_) AllReadyH.nil; go_simp)
  have u0 : ((X4.setCell ⟨w.heap.size, 0, none⟩ (.slice A0 m0 c0)).setCell ⟨w.heap.size, 1, none⟩ (.slice A1 m1 c1)).cell? ⟨W2.heap.size, 0, none⟩ = _ := (World.cell?_setCell_other _ _ _ _ (by first | omega | (simp; done) | (simp; omega))).trans ((World.cell?_setCell_other _ _ _ _ (by first | omega | (simp; done) | (simp; omega))).trans D4.out.box.c0)
  have u1 : ((X4.setCell ⟨w.heap.size, 0, none⟩ (.slice A0 m0 c0)).setCell ⟨w.heap.size, 1, none⟩ (.slice A1 m1 c1)).cell? ⟨W2.heap.size, 1, none⟩ = _ := (World.cell?_setCell_other _ _ _ _ (by first | omega | (simp; done) | (simp; omega))).trans ((World.cell?_setCell_other _ _ _ _ (by first | omega | (simp; done) | (simp; omega))).trans D4.out.box.c1)
  (refine hK.out _ _ ?_ (fun hHeld => ?_))
  · exact ⟨u0, u1⟩
  ((refine wpAnyH_take (i := 5) (oi := ⟨some 3, _, _, _, _, _⟩) (v := ?_) rfl (by kernel_rfl) (by kernel_rfl) (by kernel_rfl) (fun _ _ _ h => h) (Or.inl ⟨by rfl, ?_⟩) (by assumption) ?_; rotate_left 1; (focus (intro w hSw; (try dsimp only at hSw); go_simp <;> try (first | (with_reducible rfl) | (rw [if_neg (by omega)])))); try simp only [Act.put, List.setIfInBounds_toArray, List.set_cons_zero, List.set_cons_succ]); (refine wpAnyH_take (i := 6) (oi := ⟨some 4, _, _, _, _, _⟩) (v := ?_) rfl (by kernel_rfl) (by kernel_rfl) (by kernel_rfl) (fun _ _ _ h => h) (Or.inl ⟨by rfl, ?_⟩) (by assumption) ?_; rotate_left 1; (focus (intro w hSw; (try dsimp only at hSw); go_simp <;> try (first | (with_reducible rfl) | (rw [if_neg (by omega)])))); try simp only [Act.put, List.setIfInBounds_toArray, List.set_cons_zero, List.set_cons_succ]))
  refine wpAnyH_done (by kernel_rfl) ?_ _
  go_wp2
  obtain ⟨t0, t1, t2, t3, t4⟩ := D4.out.fin
  exact bodyPost_ret (v := .tuple #[.agg #[.slice A0 m0 c0, .slice A1 m1 c1], .int .i64 y, .int .i64 z]) (by simp [results, Tryd.results20, go_sem, t0, t1]) rfl ⟨A0, m0, c0, A1, m1, c1, ls, vs, y, z, rfl, hm0, hm1, D4.out.f0, D4.out.f1, Wy.out, Wz.out, t4, t2.rd, t3.rd⟩

set_option maxRecDepth 100000 in
set_option maxHeartbeats 6400000 in
theorem drawLevelAt_t (A : Option Addr) (n c : Nat) (w : World) (h : ByR w A n) (hn : n ≤ 1048576) :
    Calls Tryd.prog 14 #[.slice A n c] w fun e w' => ∃ (A0 : Option Addr) (m0 c0 : Nat) (A1 : Option Addr) (m1 c1 : Nat) (ls vs : List Int) (y : Int), e = .returned (.tuple #[.agg #[.slice A0 m0 c0, .slice A1 m1 c1], .int .i64 y]) ∧ m0 ≤ 13 ∧ m1 ≤ 13 ∧ Wf ls ∧ Wf vs ∧ (Lit.int .i64 y).wf = true ∧ Below w.heap.size w w' ∧ Rd w' w'.heap.size A0 m0 ls ∧ Rd w' w'.heap.size A1 m1 vs := by
  have H := Lib.hid h
  clear h
  go_enter Tryd.func14, Tryd.ntmps14
  go_wp2_with fail
  refine (l00From_d A n c w H.out).mono ?_
  rintro e1 w1 ⟨rfl, D1⟩
  have HD1 := Lib.hid D1
  clear D1
  go_wp2_with fail
  refine (l05Bent_t (w.heap.size + 1) n 0 _ HD1.out.src hn (by omega)).mono ?_
  rintro e2 W2 ⟨A0, m0, c0, A1, m1, c1, k2, ls, vs, rfl, hm0, hm1, f0, f1, x0, x1, S2, hk2, g2⟩
  have D2 := Lib.hid (HD1.out.ds (c0 := c0) (c1 := c1) g2 S2 x0 x1 f0 f1)
  clear f0 f1 x0 x1 S2 g2
  go_wp2_with fail
  generalize W2.alloc (.cells #[.slice A0 m0 c0, .slice A1 m1 c1] 37) = W3 at D2 ⊢
  refine (one_t (w.heap.size + 1) n k2 10 _ D2.out.src hn (by omega) (by omega)).mono ?_
  rintro e3 X3 ⟨r3, k3, rfl, S3, hk3, g3⟩
  have D3 := Lib.hid (D2.out.grown g3 S3)
  clear S3 g3
  cases r3
  · go_wp2_with fail
    have E3 := Lib.hid D3.out.drew
    refine wp_region_held_drew (S := fun w' => w'.cell? ⟨W2.heap.size, 0, none⟩ = some (.slice A0 m0 c0) ∧ w'.cell? ⟨W2.heap.size, 1, none⟩ = some (.slice A1 m1 c1)) (by kernel_rfl) ⟨D3.out.box.c0, D3.out.box.c1⟩ (fun hHeld => ?_)
    ((refine wpAnyH_take (i := 0) (oi := ⟨some 16, _, _, _, _, _⟩) (v := ?_) rfl (by kernel_rfl) (by kernel_rfl) (by kernel_rfl) (fun _ _ _ h => h) (Or.inl ⟨by rfl, ?_⟩) (by assumption) ?_; rotate_left 1; (focus (intro w hSw; (try dsimp only at hSw); go_simp <;> try (first | (with_reducible rfl) | (rw [if_neg (by omega)])))); try simp only [Act.put, List.setIfInBounds_toArray, List.set_cons_zero, List.set_cons_succ]); (refine wpAnyH_take (i := 1) (oi := ⟨some 17, _, _, _, _, _⟩) (v := ?_) rfl (by kernel_rfl) (by kernel_rfl) (by kernel_rfl) (fun _ _ _ h => h) (Or.inl ⟨by rfl, ?_⟩) (by assumption) ?_; rotate_left 1; (focus (intro w hSw; (try dsimp only at hSw); go_simp <;> try (first | (with_reducible rfl) | (rw [if_neg (by omega)])))); try simp only [Act.put, List.setIfInBounds_toArray, List.set_cons_zero, List.set_cons_succ]); (refine wpAnyH_take (i := 3) (oi := ⟨some 19, _, _, _, _, _⟩) (v := ?_) rfl (by kernel_rfl) (by kernel_rfl) (by kernel_rfl) (fun _ _ _ h => h) (Or.inl ⟨by rfl, ?_⟩) (by assumption) ?_; rotate_left 1; (focus (intro w hSw; (try dsimp only at hSw); go_simp <;> try (first | (with_reducible rfl) | (rw [if_neg (by omega)])))); try simp only [Act.put, List.setIfInBounds_toArray, List.set_cons_zero, List.set_cons_succ]))
    (refine wpAnyH_ready (rs := [2]) (by kernel_rfl) (by simp) ?_; refine AllReadyH.cons rfl (fun K hK => ?_) AllReadyH.nil; go_simp)
    refine (pick_t (w.heap.size + 1) n k3 100 _ E3.out.src hn (by omega) (by omega)).mono ?_
    rintro e4 X4 ⟨r4, k4, rfl, q40, q41, q42, S4, hk4, g4⟩
    have q44 : r4 < 100 := q41 (by omega)
    have D4 := Lib.hid (E3.out.grown g4 S4)
    clear S4 g4 q41 q42
    clear hHeld
    (refine hK.out _ _ ?_ (fun hHeld => ?_))
    · exact ⟨D4.out.box.c0, D4.out.box.c1⟩
    (refine wpAnyH_ready (rs := [4]) (by kernel_rfl) (by simp) ?_; refine AllReadyH.cons rfl (fun K hK => ?_) AllReadyH.nil; go_simp)
    refine (pick_t (w.heap.size + 1) n k4 100 _ D4.out.src hn (by omega) (by omega)).mono ?_
    rintro e5 X5 ⟨r5, k5, rfl, q50, q51, q52, S5, hk5, g5⟩
    have q54 : r5 < 100 := q51 (by omega)
    have D5 := Lib.hid (D4.out.grown g5 S5)
    clear S5 g5 q51 q52
    have y0 := D5.out.res.c0
    have y1 := D5.out.res.c1
    have yf0 := D5.out.res.f 0
    have yf1 := D5.out.res.f 1
    have hOO := D5.out.hO
    have hw1 := IntWalk.i64_in (1 + r5) (by omega)
    have hp0 : 0 ≤ r4 * (1 + r5) := Int.mul_nonneg (by omega) (by omega)
    have hp1 : r4 * (1 + r5) ≤ 100 * 100 := Int.mul_le_mul (by omega) (by omega) (by omega) (by omega)
    have hw2 := IntWalk.i64_in (r4 * (1 + r5)) (by omega)
    clear hHeld
    (refine hK.out _ _ ?_ (fun hHeld => ?_))
    · exact ⟨D5.out.box.c0, D5.out.box.c1⟩
    ((refine wpAnyH_take (i := 5) (oi := ⟨some 21, _, _, _, _, _⟩) (v := ?_) rfl (by kernel_rfl) (by kernel_rfl) (by kernel_rfl) (fun _ _ _ h => h) (Or.inl ⟨by rfl, ?_⟩) (by assumption) ?_; rotate_left 1; (focus (intro w hSw; (try dsimp only at hSw); go_simp <;> try (first | (with_reducible rfl) | (rw [if_neg (by omega)])))); try simp only [Act.put, List.setIfInBounds_toArray, List.set_cons_zero, List.set_cons_succ]); (refine wpAnyH_take (i := 6) (oi := ⟨some 22, _, _, _, _, _⟩) (v := ?_) rfl (by kernel_rfl) (by kernel_rfl) (by kernel_rfl) (fun _ _ _ h => h) (Or.inl ⟨by rfl, ?_⟩) (by assumption) ?_; rotate_left 1; (focus (intro w hSw; (try dsimp only at hSw); go_simp <;> try (first | (with_reducible rfl) | (rw [if_neg (by omega)])))); try simp only [Act.put, List.setIfInBounds_toArray, List.set_cons_zero, List.set_cons_succ]))
    (refine wpAnyH_ready (rs := [7]) (by kernel_rfl) (by simp) ?_; refine AllReadyH.cons rfl (fun K hK => ?_) AllReadyH.nil; go_simp)
    have u0 : ((X5.setCell ⟨w.heap.size, 0, none⟩ (.slice A0 m0 c0)).setCell ⟨w.heap.size, 1, none⟩ (.slice A1 m1 c1)).cell? ⟨W2.heap.size, 0, none⟩ = _ := (World.cell?_setCell_other _ _ _ _ (by first | omega | (simp; done) | (simp; omega))).trans ((World.cell?_setCell_other _ _ _ _ (by first | omega | (simp; done) | (simp; omega))).trans D5.out.box.c0)
    have u1 : ((X5.setCell ⟨w.heap.size, 0, none⟩ (.slice A0 m0 c0)).setCell ⟨w.heap.size, 1, none⟩ (.slice A1 m1 c1)).cell? ⟨W2.heap.size, 1, none⟩ = _ := (World.cell?_setCell_other _ _ _ _ (by first | omega | (simp; done) | (simp; omega))).trans ((World.cell?_setCell_other _ _ _ _ (by first | omega | (simp; done) | (simp; omega))).trans D5.out.box.c1)
    (refine hK.out _ _ ?_ (fun hHeld => ?_))
    · exact ⟨u0, u1⟩
    ((refine wpAnyH_take (i := 8) (oi := ⟨some 3, _, _, _, _, _⟩) (v := ?_) rfl (by kernel_rfl) (by kernel_rfl) (by kernel_rfl) (fun _ _ _ h => h) (Or.inl ⟨by rfl, ?_⟩) (by assumption) ?_; rotate_left 1; (focus (intro w hSw; (try dsimp only at hSw); go_simp <;> try (first | (with_reducible rfl) | (rw [if_neg (by omega)])))); try simp only [Act.put, List.setIfInBounds_toArray, List.set_cons_zero, List.set_cons_succ]))
    refine wpAnyH_done (by kernel_rfl) ?_ _
    go_wp2
    obtain ⟨t0, t1, t2, t3, t4⟩ := D5.out.fin
    exact bodyPost_ret (v := .tuple #[.agg #[.slice A0 m0 c0, .slice A1 m1 c1], .int .i64 (r4 * (1 + r5))]) (by simp [results, Tryd.results14, go_sem, t0, t1]) rfl ⟨A0, m0, c0, A1, m1, c1, ls, vs, (r4 * (1 + r5)), rfl, hm0, hm1, D5.out.f0, D5.out.f1, WalkArith.wf_i64 (by omega), t4, t2.rd, t3.rd⟩
  · go_wp2_with fail
    have E3 := Lib.hid D3.out.drew
    have E4 := Lib.hid (E3.out.alloc (.cells #[.int .i64 (-1), .int .i64 0, .int .i64 1000000000, .int .i64 1000000001] 2))
    refine wp_region_held_drew (S := fun w' => w'.cell? ⟨W2.heap.size, 0, none⟩ = some (.slice A0 m0 c0) ∧ w'.cell? ⟨W2.heap.size, 1, none⟩ = some (.slice A1 m1 c1)) (by kernel_rfl) ⟨D3.out.box.c0, D3.out.box.c1⟩ (fun hHeld => ?_)
    ((refine wpAnyH_take (i := 0) (oi := ⟨some 12, _, _, _, _, _⟩) (v := ?_) rfl (by kernel_rfl) (by kernel_rfl) (by kernel_rfl) (fun _ _ _ h => h) (Or.inl ⟨by rfl, ?_⟩) (by assumption) ?_; rotate_left 1; (focus (intro w hSw; (try dsimp only at hSw); go_simp <;> try (first | (with_reducible rfl) | (rw [if_neg (by omega)])))); try simp only [Act.put, List.setIfInBounds_toArray, List.set_cons_zero, List.set_cons_succ]); (refine wpAnyH_take (i := 1) (oi := ⟨some 13, _, _, _, _, _⟩) (v := ?_) rfl (by kernel_rfl) (by kernel_rfl) (by kernel_rfl) (fun _ _ _ h => h) (Or.inl ⟨by rfl, ?_⟩) (by assumption) ?_; rotate_left 1; (focus (intro w hSw; (try dsimp only at hSw); go_simp <;> try (first | (with_reducible rfl) | (rw [if_neg (by omega)])))); try simp only [Act.put, List.setIfInBounds_toArray, List.set_cons_zero, List.set_cons_succ]))
    refine wpAnyH_ready (rs := [2]) (by kernel_rfl) (by simp) ?_
    refine AllReadyH.cons (o := ⟨some 14, _, _, _, _, _⟩) rfl (fun K hK => ?_) AllReadyH.nil
    go_simp
    clear hHeld
    (refine hK.out _ _ ?_ (fun hHeld => ?_))
    · exact ⟨E4.out.box.c0, E4.out.box.c1⟩
    try simp only [Act.put, List.setIfInBounds_toArray, List.set_cons_zero, List.set_cons_succ]
    (refine wpAnyH_ready (rs := [3]) (by kernel_rfl) (by simp) ?_; refine AllReadyH.cons rfl (fun K hK => ?_) AllReadyH.nil; go_simp)
    refine (among_t (w.heap.size + 1) n k3 _ _ _ [-1, 0, 1000000000, 1000000001] _ (E3.out.alloc _).src hn (by omega) (by omega) (by omega) (by have := rd_lit (X3.drew) 2 [-1, 0, 1000000000, 1000000001] 4; exact this.mono (by simp)) (by have h1 := D3.out.hO; have h2 := D3.out.src.bs; simp [ablk, World.drew] at h2 ⊢; omega)).mono ?_
    rintro e4 X4 ⟨y, k4, rfl, hy, S4, hk4, g4⟩
    have wy : (Lit.int .i64 y).wf = true := by simp at hy; exact WalkArith.wf_i64 (by omega)
    have D4 := Lib.hid ((E3.out.alloc _).grown g4 S4)
    have Wy := Lib.hid wy
    clear S4 g4 wy hy
    have y0 := D4.out.res.c0
    have y1 := D4.out.res.c1
    have yf0 := D4.out.res.f 0
    have yf1 := D4.out.res.f 1
    have hOO := D4.out.hO
    clear hHeld
    (refine hK.out _ _ ?_ (fun hHeld => ?_))
    · exact ⟨D4.out.box.c0, D4.out.box.c1⟩
    (refine wpAnyH_ready (rs := [4]) (by kernel_rfl) (by simp) ?_; refine AllReadyH.cons rfl (fun K hK => ?_) AllReadyH.nil; go_simp)
    have u0 : ((X4.setCell ⟨w.heap.size, 0, none⟩ (.slice A0 m0 c0)).setCell ⟨w.heap.size, 1, none⟩ (.slice A1 m1 c1)).cell? ⟨W2.heap.size, 0, none⟩ = _ := (World.cell?_setCell_other _ _ _ _ (by first | omega | (simp; done) | (simp; omega))).trans ((World.cell?_setCell_other _ _ _ _ (by first | omega | (simp; done) | (simp; omega))).trans D4.out.box.c0)
    have u1 : ((X4.setCell ⟨w.heap.size, 0, none⟩ (.slice A0 m0 c0)).setCell ⟨w.heap.size, 1, none⟩ (.slice A1 m1 c1)).cell? ⟨W2.heap.size, 1, none⟩ = _ := (World.cell?_setCell_other _ _ _ _ (by first | omega | (simp; done) | (simp; omega))).trans ((World.cell?_setCell_other _ _ _ _ (by first | omega | (simp; done) | (simp; omega))).trans D4.out.box.c1)
    (refine hK.out _ _ ?_ (fun hHeld => ?_))
    · exact ⟨u0, u1⟩
    ((refine wpAnyH_take (i := 5) (oi := ⟨some 3, _, _, _, _, _⟩) (v := ?_) rfl (by kernel_rfl) (by kernel_rfl) (by kernel_rfl) (fun _ _ _ h => h) (Or.inl ⟨by rfl, ?_⟩) (by assumption) ?_; rotate_left 1; (focus (intro w hSw; (try dsimp only at hSw); go_simp <;> try (first | (with_reducible rfl) | (rw [if_neg (by omega)])))); try simp only [Act.put, List.setIfInBounds_toArray, List.set_cons_zero, List.set_cons_succ]))
    refine wpAnyH_done (by kernel_rfl) ?_ _
    go_wp2
    obtain ⟨t0, t1, t2, t3, t4⟩ := D4.out.fin
    exact bodyPost_ret (v := .tuple #[.agg #[.slice A0 m0 c0, .slice A1 m1 c1], .int .i64 y]) (by simp [results, Tryd.results14, go_sem, t0, t1]) rfl ⟨A0, m0, c0, A1, m1, c1, ls, vs, y, rfl, hm0, hm1, D4.out.f0, D4.out.f1, Wy.out, t4, t2.rd, t3.rd⟩

set_option maxRecDepth 100000 in
set_option maxHeartbeats 6400000 in
theorem drawAddWater_t (A : Option Addr) (n c : Nat) (w : World) (h : ByR w A n) (hn : n ≤ 1048576) :
    Calls Tryd.prog 17 #[.slice A n c] w fun e w' => ∃ (A0 : Option Addr) (m0 c0 : Nat) (A1 : Option Addr) (m1 c1 : Nat) (ls vs : List Int) (y z : Int), e = .returned (.tuple #[.agg #[.slice A0 m0 c0, .slice A1 m1 c1], .int .i64 y, .int .i64 z]) ∧ m0 ≤ 13 ∧ m1 ≤ 13 ∧ Wf ls ∧ Wf vs ∧ (Lit.int .i64 y).wf = true ∧ (Lit.int .i64 z).wf = true ∧ Below w.heap.size w w' ∧ Rd w' w'.heap.size A0 m0 ls ∧ Rd w' w'.heap.size A1 m1 vs := by
  have H := Lib.hid h
  clear h
  go_enter Tryd.func17, Tryd.ntmps17
  go_wp2_with fail
  refine (l00From_d A n c w H.out).mono ?_
  rintro e1 w1 ⟨rfl, D1⟩
  have HD1 := Lib.hid D1
  clear D1
  go_wp2_with fail
  refine (l05Bent_t (w.heap.size + 1) n 0 _ HD1.out.src hn (by omega)).mono ?_
  rintro e2 W2 ⟨A0, m0, c0, A1, m1, c1, k2, ls, vs, rfl, hm0, hm1, f0, f1, x0, x1, S2, hk2, g2⟩
  have D2 := Lib.hid (HD1.out.ds (c0 := c0) (c1 := c1) g2 S2 x0 x1 f0 f1)
  clear f0 f1 x0 x1 S2 g2
  go_wp2_with fail
  generalize W2.alloc (.cells #[.slice A0 m0 c0, .slice A1 m1 c1] 37) = W3 at D2 ⊢
  refine (l05At_t (w.heap.size + 1) n k2 W2.heap.size A0 m0 c0 (.slice A1 m1 c1) ls _ D2.out.src hn (by omega) D2.out.box (by have := D2.out.hO; omega) D2.out.w0.rd hm0 D2.out.ne0 D2.out.f0).mono ?_
  rintro e3 X3 ⟨y, k3, rfl, wy, S3, hk3, g3⟩
  have D3 := Lib.hid (D2.out.grown g3 S3)
  have Wy := Lib.hid wy
  clear S3 g3 wy
  go_wp2_with fail
  refine (one_t (w.heap.size + 1) n k3 10 _ D3.out.src hn (by omega) (by omega)).mono ?_
  rintro e4 X4 ⟨r4, k4, rfl, S4, hk4, g4⟩
  have D4 := Lib.hid (D3.out.grown g4 S4)
  clear S4 g4
  cases r4
  · go_wp2_with fail
    have E4 := Lib.hid D4.out.drew
    refine wp_region_held_drew (S := fun w' => w'.cell? ⟨W2.heap.size, 0, none⟩ = some (.slice A0 m0 c0) ∧ w'.cell? ⟨W2.heap.size, 1, none⟩ = some (.slice A1 m1 c1)) (by kernel_rfl) ⟨D4.out.box.c0, D4.out.box.c1⟩ (fun hHeld => ?_)
    ((refine wpAnyH_take (i := 0) (oi := ⟨some 21, _, _, _, _, _⟩) (v := ?_) rfl (by kernel_rfl) (by kernel_rfl) (by kernel_rfl) (fun _ _ _ h => h) (Or.inl ⟨by rfl, ?_⟩) (by assumption) ?_; rotate_left 1; (focus (intro w hSw; (try dsimp only at hSw); go_simp <;> try (first | (with_reducible rfl) | (rw [if_neg (by omega)])))); try simp only [Act.put, List.setIfInBounds_toArray, List.set_cons_zero, List.set_cons_succ]); (refine wpAnyH_take (i := 1) (oi := ⟨some 22, _, _, _, _, _⟩) (v := ?_) rfl (by kernel_rfl) (by kernel_rfl) (by kernel_rfl) (fun _ _ _ h => h) (Or.inl ⟨by rfl, ?_⟩) (by assumption) ?_; rotate_left 1; (focus (intro w hSw; (try dsimp only at hSw); go_simp <;> try (first | (with_reducible rfl) | (rw [if_neg (by omega)])))); try simp only [Act.put, List.setIfInBounds_toArray, List.set_cons_zero, List.set_cons_succ]); (refine wpAnyH_take (i := 2) (oi := ⟨some 23, _, _, _, _, _⟩) (v := ?_) rfl (by kernel_rfl) (by kernel_rfl) (by kernel_rfl) (fun _ _ _ h => h) (Or.inl ⟨by rfl, ?_⟩) (by assumption) ?_; rotate_left 1; (focus (intro w hSw; (try dsimp only at hSw); go_simp <;> try (first | (with_reducible rfl) | (rw [if_neg (by omega)])))); try simp only [Act.put, List.setIfInBounds_toArray, List.set_cons_zero, List.set_cons_succ]))
    (refine wpAnyH_ready (rs := [3]) (by kernel_rfl) (by simp) ?_; refine AllReadyH.cons rfl (fun K hK => ?_) AllReadyH.nil; go_simp)
    refine (pick_t (w.heap.size + 1) n k4 6000 _ E4.out.src hn (by omega) (by omega)).mono ?_
    rintro e5 X5 ⟨r5, k5, rfl, q50, q51, q52, S5, hk5, g5⟩
    have q54 : r5 < 6000 := q51 (by omega)
    have D5 := Lib.hid (E4.out.grown g5 S5)
    clear S5 g5 q51 q52
    have y0 := D5.out.res.c0
    have y1 := D5.out.res.c1
    have yf0 := D5.out.res.f 0
    have yf1 := D5.out.res.f 1
    have hOO := D5.out.hO
    have hw1 := IntWalk.i64_in (r5 - 3000) (by omega)
    clear hHeld
    (refine hK.out _ _ ?_ (fun hHeld => ?_))
    · exact ⟨D5.out.box.c0, D5.out.box.c1⟩
    ((refine wpAnyH_take (i := 4) (oi := ⟨some 25, _, _, _, _, _⟩) (v := ?_) rfl (by kernel_rfl) (by kernel_rfl) (by kernel_rfl) (fun _ _ _ h => h) (Or.inl ⟨by rfl, ?_⟩) (by assumption) ?_; rotate_left 1; (focus (intro w hSw; (try dsimp only at hSw); go_simp <;> try (first | (with_reducible rfl) | (rw [if_neg (by omega)])))); try simp only [Act.put, List.setIfInBounds_toArray, List.set_cons_zero, List.set_cons_succ]))
    (refine wpAnyH_ready (rs := [5]) (by kernel_rfl) (by simp) ?_; refine AllReadyH.cons rfl (fun K hK => ?_) AllReadyH.nil; go_simp)
    have u0 : ((X5.setCell ⟨w.heap.size, 0, none⟩ (.slice A0 m0 c0)).setCell ⟨w.heap.size, 1, none⟩ (.slice A1 m1 c1)).cell? ⟨W2.heap.size, 0, none⟩ = _ := (World.cell?_setCell_other _ _ _ _ (by first | omega | (simp; done) | (simp; omega))).trans ((World.cell?_setCell_other _ _ _ _ (by first | omega | (simp; done) | (simp; omega))).trans D5.out.box.c0)
    have u1 : ((X5.setCell ⟨w.heap.size, 0, none⟩ (.slice A0 m0 c0)).setCell ⟨w.heap.size, 1, none⟩ (.slice A1 m1 c1)).cell? ⟨W2.heap.size, 1, none⟩ = _ := (World.cell?_setCell_other _ _ _ _ (by first | omega | (simp; done) | (simp; omega))).trans ((World.cell?_setCell_other _ _ _ _ (by first | omega | (simp; done) | (simp; omega))).trans D5.out.box.c1)
    (refine hK.out _ _ ?_ (fun hHeld => ?_))
    · exact ⟨u0, u1⟩
    ((refine wpAnyH_take (i := 6) (oi := ⟨some 3, _, _, _, _, _⟩) (v := ?_) rfl (by kernel_rfl) (by kernel_rfl) (by kernel_rfl) (fun _ _ _ h => h) (Or.inl ⟨by rfl, ?_⟩) (by assumption) ?_; rotate_left 1; (focus (intro w hSw; (try dsimp only at hSw); go_simp <;> try (first | (with_reducible rfl) | (rw [if_neg (by omega)])))); try simp only [Act.put, List.setIfInBounds_toArray, List.set_cons_zero, List.set_cons_succ]); (refine wpAnyH_take (i := 7) (oi := ⟨some 4, _, _, _, _, _⟩) (v := ?_) rfl (by kernel_rfl) (by kernel_rfl) (by kernel_rfl) (fun _ _ _ h => h) (Or.inl ⟨by rfl, ?_⟩) (by assumption) ?_; rotate_left 1; (focus (intro w hSw; (try dsimp only at hSw); go_simp <;> try (first | (with_reducible rfl) | (rw [if_neg (by omega)])))); try simp only [Act.put, List.setIfInBounds_toArray, List.set_cons_zero, List.set_cons_succ]))
    refine wpAnyH_done (by kernel_rfl) ?_ _
    go_wp2
    obtain ⟨t0, t1, t2, t3, t4⟩ := D5.out.fin
    exact bodyPost_ret (v := .tuple #[.agg #[.slice A0 m0 c0, .slice A1 m1 c1], .int .i64 y, .int .i64 (r5 - 3000)]) (by simp [results, Tryd.results17, go_sem, t0, t1]) rfl ⟨A0, m0, c0, A1, m1, c1, ls, vs, y, (r5 - 3000), rfl, hm0, hm1, D5.out.f0, D5.out.f1, Wy.out, WalkArith.wf_i64 (by omega), t4, t2.rd, t3.rd⟩
  · go_wp2_with fail
    have E4 := Lib.hid D4.out.drew
    have E5 := Lib.hid (E4.out.alloc (.cells #[.int .i64 (-1000000001), .int .i64 (-1000000000), .int .i64 0, .int .i64 1000000000, .int .i64 1000000001, .int .i64 (-9223372036854775808)] 2))
    refine wp_region_held_drew (S := fun w' => w'.cell? ⟨W2.heap.size, 0, none⟩ = some (.slice A0 m0 c0) ∧ w'.cell? ⟨W2.heap.size, 1, none⟩ = some (.slice A1 m1 c1)) (by kernel_rfl) ⟨D4.out.box.c0, D4.out.box.c1⟩ (fun hHeld => ?_)
    ((refine wpAnyH_take (i := 0) (oi := ⟨some 16, _, _, _, _, _⟩) (v := ?_) rfl (by kernel_rfl) (by kernel_rfl) (by kernel_rfl) (fun _ _ _ h => h) (Or.inl ⟨by rfl, ?_⟩) (by assumption) ?_; rotate_left 1; (focus (intro w hSw; (try dsimp only at hSw); go_simp <;> try (first | (with_reducible rfl) | (rw [if_neg (by omega)])))); try simp only [Act.put, List.setIfInBounds_toArray, List.set_cons_zero, List.set_cons_succ]); (refine wpAnyH_take (i := 1) (oi := ⟨some 17, _, _, _, _, _⟩) (v := ?_) rfl (by kernel_rfl) (by kernel_rfl) (by kernel_rfl) (fun _ _ _ h => h) (Or.inl ⟨by rfl, ?_⟩) (by assumption) ?_; rotate_left 1; (focus (intro w hSw; (try dsimp only at hSw); go_simp <;> try (first | (with_reducible rfl) | (rw [if_neg (by omega)])))); try simp only [Act.put, List.setIfInBounds_toArray, List.set_cons_zero, List.set_cons_succ]); (refine wpAnyH_take (i := 2) (oi := ⟨some 18, _, _, _, _, _⟩) (v := ?_) rfl (by kernel_rfl) (by kernel_rfl) (by kernel_rfl) (fun _ _ _ h => h) (Or.inl ⟨by rfl, ?_⟩) (by assumption) ?_; rotate_left 1; (focus (intro w hSw; (try dsimp only at hSw); go_simp <;> try (first | (with_reducible rfl) | (rw [if_neg (by omega)])))); try simp only [Act.put, List.setIfInBounds_toArray, List.set_cons_zero, List.set_cons_succ]))
    refine wpAnyH_ready (rs := [3]) (by kernel_rfl) (by simp) ?_
    refine AllReadyH.cons (o := ⟨some 19, _, _, _, _, _⟩) rfl (fun K hK => ?_) AllReadyH.nil
    go_simp
    clear hHeld
    (refine hK.out _ _ ?_ (fun hHeld => ?_))
    · exact ⟨E5.out.box.c0, E5.out.box.c1⟩
    try simp only [Act.put, List.setIfInBounds_toArray, List.set_cons_zero, List.set_cons_succ]
    (refine wpAnyH_ready (rs := [4]) (by kernel_rfl) (by simp) ?_; refine AllReadyH.cons rfl (fun K hK => ?_) AllReadyH.nil; go_simp)
    refine (among_t (w.heap.size + 1) n k4 _ _ _ [-1000000001, -1000000000, 0, 1000000000, 1000000001, -9223372036854775808] _ (E4.out.alloc _).src hn (by omega) (by omega) (by omega) (by have := rd_lit (X4.drew) 2 [-1000000001, -1000000000, 0, 1000000000, 1000000001, -9223372036854775808] 6; exact this.mono (by simp)) (by have h1 := D4.out.hO; have h2 := D4.out.src.bs; simp [ablk, World.drew] at h2 ⊢; omega)).mono ?_
    rintro e5 X5 ⟨z, k5, rfl, hy, S5, hk5, g5⟩
    have wz : (Lit.int .i64 z).wf = true := by simp at hy; exact WalkArith.wf_i64 (by omega)
    have D5 := Lib.hid ((E4.out.alloc _).grown g5 S5)
    have Wz := Lib.hid wz
    clear S5 g5 wz hy
    have y0 := D5.out.res.c0
    have y1 := D5.out.res.c1
    have yf0 := D5.out.res.f 0
    have yf1 := D5.out.res.f 1
    have hOO := D5.out.hO
    clear hHeld
    (refine hK.out _ _ ?_ (fun hHeld => ?_))
    · exact ⟨D5.out.box.c0, D5.out.box.c1⟩
    (refine wpAnyH_ready (rs := [5]) (by kernel_rfl) (by simp) ?_; refine AllReadyH.cons rfl (fun K hK => ?_) AllReadyH.nil; go_simp)
    have u0 : ((X5.setCell ⟨w.heap.size, 0, none⟩ (.slice A0 m0 c0)).setCell ⟨w.heap.size, 1, none⟩ (.slice A1 m1 c1)).cell? ⟨W2.heap.size, 0, none⟩ = _ := (World.cell?_setCell_other _ _ _ _ (by first | omega | (simp; done) | (simp; omega))).trans ((World.cell?_setCell_other _ _ _ _ (by first | omega | (simp; done) | (simp; omega))).trans D5.out.box.c0)
    have u1 : ((X5.setCell ⟨w.heap.size, 0, none⟩ (.slice A0 m0 c0)).setCell ⟨w.heap.size, 1, none⟩ (.slice A1 m1 c1)).cell? ⟨W2.heap.size, 1, none⟩ = _ := (World.cell?_setCell_other _ _ _ _ (by first | omega | (simp; done) | (simp; omega))).trans ((World.cell?_setCell_other _ _ _ _ (by first | omega | (simp; done) | (simp; omega))).trans D5.out.box.c1)
    (refine hK.out _ _ ?_ (fun hHeld => ?_))
    · exact ⟨u0, u1⟩
    ((refine wpAnyH_take (i := 6) (oi := ⟨some 3, _, _, _, _, _⟩) (v := ?_) rfl (by kernel_rfl) (by kernel_rfl) (by kernel_rfl) (fun _ _ _ h => h) (Or.inl ⟨by rfl, ?_⟩) (by assumption) ?_; rotate_left 1; (focus (intro w hSw; (try dsimp only at hSw); go_simp <;> try (first | (with_reducible rfl) | (rw [if_neg (by omega)])))); try simp only [Act.put, List.setIfInBounds_toArray, List.set_cons_zero, List.set_cons_succ]); (refine wpAnyH_take (i := 7) (oi := ⟨some 4, _, _, _, _, _⟩) (v := ?_) rfl (by kernel_rfl) (by kernel_rfl) (by kernel_rfl) (fun _ _ _ h => h) (Or.inl ⟨by rfl, ?_⟩) (by assumption) ?_; rotate_left 1; (focus (intro w hSw; (try dsimp only at hSw); go_simp <;> try (first | (with_reducible rfl) | (rw [if_neg (by omega)])))); try simp only [Act.put, List.setIfInBounds_toArray, List.set_cons_zero, List.set_cons_succ]))
    refine wpAnyH_done (by kernel_rfl) ?_ _
    go_wp2
    obtain ⟨t0, t1, t2, t3, t4⟩ := D5.out.fin
    exact bodyPost_ret (v := .tuple #[.agg #[.slice A0 m0 c0, .slice A1 m1 c1], .int .i64 y, .int .i64 z]) (by simp [results, Tryd.results17, go_sem, t0, t1]) rfl ⟨A0, m0, c0, A1, m1, c1, ls, vs, y, z, rfl, hm0, hm1, D5.out.f0, D5.out.f1, Wy.out, Wz.out, t4, t2.rd, t3.rd⟩

end Go.Proofs.YthjcpgabdlfojaaDoor
