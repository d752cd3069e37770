/- A drawn curve that is seldom not valid; a drawn level of a curve. -/
import Derived.Test.YthjcpgabdlfojaaDoorDraw6
import Derived.Deep.RegionHeld3
namespace Go.Proofs.YthjcpgabdlfojaaDoor
open Go.RowKit

set_option maxRecDepth 100000 in
set_option maxHeartbeats 12800000 in
theorem l05Bent_t (b n k : Nat) (w : World) (h : Src w b n k) (hn : n ≤ 1048576) (hk : k ≤ 1000000) :
    Calls Tryd.prog 40 #[.pointer (some ⟨b, 0, none⟩)] w fun e w' => ∃ (A0 : Option Addr) (m0 c0 : Nat) (A1 : Option Addr) (m1 c1 k' : Nat) (ls vs : List Int), e = .returned (.agg #[.slice A0 m0 c0, .slice A1 m1 c1]) ∧ m0 ≤ 13 ∧ m1 ≤ 13 ∧ Wf ls ∧ Wf vs ∧ Wr w' w.heap.size A0 m0 ls ∧ Wr w' w.heap.size A1 m1 vs ∧ Src w' b n k' ∧ k' ≤ k + 80 ∧ w.grownBy w' (some b) := by
  have hbs := h.bs
  have HW0 := Lib.hid (show Src (w.alloc (.cells #[.slice none 0 0, .slice none 0 0] 37)) b n k from h.alloc _)
  clear h
  go_enter Tryd.func40, Tryd.ntmps40
  go_wp2_with fail
  refine (l05Draw_t b n k _ HW0.out hn (by omega)).mono ?_
  rintro e1 W1 ⟨v0, v1, m, k1, ls, vs, rfl, hm2, hm5, f0, f1, R, S1, hk1, g1⟩
  obtain ⟨A0, c0, rfl⟩ := own_slice R.o0
  obtain ⟨A1, c1, rfl⟩ := own_slice R.o1
  have P1 := Lib.hid (bent_start hbs R S1 g1 f0 f1)
  clear f0 f1 R S1 g1
  go_wp2_with fail
  generalize W1.alloc (.cells #[.slice A0 m c0, .slice A1 m c1] 37) = WA at P1 ⊢
  refine (pick_t b n k1 24 _ P1.out.src hn (by omega) (by omega)).mono ?_
  rintro e2 W2 ⟨r, k2, rfl, p1, p2, p3, S2, p4, g2⟩
  have P2 := Lib.hid (P1.out.grown g2 S2)
  clear S2 p2 p3 g2
  by_cases r0 : r = 0
  · subst r0
    obtain ⟨g, rfl⟩ := P2.out.addr0 (by omega)
    have D2 := Lib.hid P2.out.drew
    have hOO := P2.out.hO
    go_wp2_with fail
    refine wp_region_held_drew (S := fun w' => w'.cell? ⟨W1.heap.size, 0, none⟩ = some (.slice (some ⟨g, 0, none⟩) m c0)) (by kernel_rfl) P2.out.box.c0 (fun hHeld => ?_)
    ((refine wpAnyH_take (i := 0) (oi := ⟨some 15, _, _, _, _, _⟩) (v := ?_) rfl (by kernel_rfl) (by kernel_rfl) (by kernel_rfl) (fun _ _ _ h => h) (Or.inl ⟨by rfl, ?_⟩) (by assumption) ?_; rotate_left 1; (focus (intro w hSw; (try dsimp only at hSw); go_simp <;> try (first | (with_reducible rfl) | (rw [if_neg (by omega)])))); try simp only [Act.put, List.setIfInBounds_toArray, List.set_cons_zero, List.set_cons_succ]); (refine wpAnyH_take (i := 1) (oi := ⟨some 16, _, _, _, _, _⟩) (v := ?_) rfl (by kernel_rfl) (by kernel_rfl) (by kernel_rfl) (fun _ _ _ h => h) (Or.inl ⟨by rfl, ?_⟩) (by assumption) ?_; rotate_left 1; (focus (intro w hSw; (try dsimp only at hSw); go_simp <;> try (first | (with_reducible rfl) | (rw [if_neg (by omega)])))); try simp only [Act.put, List.setIfInBounds_toArray, List.set_cons_zero, List.set_cons_succ]); (refine wpAnyH_take (i := 2) (oi := ⟨some 17, _, _, _, _, _⟩) (v := ?_) rfl (by kernel_rfl) (by kernel_rfl) (by kernel_rfl) (fun _ _ _ h => h) (Or.inl ⟨by rfl, ?_⟩) (by assumption) ?_; rotate_left 1; (focus (intro w hSw; (try dsimp only at hSw); go_simp <;> try (first | (with_reducible rfl) | (rw [if_neg (by omega)])))); try simp only [Act.put, List.setIfInBounds_toArray, List.set_cons_zero, List.set_cons_succ]); (refine wpAnyH_take (i := 3) (oi := ⟨some 18, _, _, _, _, _⟩) (v := ?_) rfl (by kernel_rfl) (by kernel_rfl) (by kernel_rfl) (fun _ _ _ h => h) (Or.inl ⟨by rfl, ?_⟩) (by assumption) ?_; rotate_left 1; (focus (intro w hSw; (try dsimp only at hSw); go_simp <;> try (first | (with_reducible rfl) | (rw [if_neg (by omega)])))); try simp only [Act.put, List.setIfInBounds_toArray, List.set_cons_zero, List.set_cons_succ]); (refine wpAnyH_take (i := 5) (oi := ⟨some 20, _, _, _, _, _⟩) (v := ?_) rfl (by kernel_rfl) (by kernel_rfl) (by kernel_rfl) (fun _ _ _ h => h) (Or.inl ⟨by rfl, ?_⟩) (by assumption) ?_; rotate_left 1; (focus (intro w hSw; (try dsimp only at hSw); go_simp <;> try (first | (with_reducible rfl) | (rw [if_neg (by omega)])))); try simp only [Act.put, List.setIfInBounds_toArray, List.set_cons_zero, List.set_cons_succ]))
    (refine wpAnyH_ready (rs := [4]) (by kernel_rfl) (by simp) ?_; refine AllReadyH.cons rfl (fun K hK => ?_) AllReadyH.nil; go_simp)
    refine (pick_t b n k2 (m : Int) _ D2.out.src hn (by omega) (by omega)).mono ?_
    rintro e3 W3 ⟨r3, k3, rfl, q30, q31, q32, S3, q34, g3⟩
    have q35 : r3 < (m : Int) := q31 (by omega)
    obtain ⟨q, rfl⟩ : ∃ q : Nat, r3 = (q : Int) := ⟨r3.toNat, by omega⟩
    have hq : q < m := by omega
    have P3 := Lib.hid (D2.out.grown g3 S3)
    clear S3 q31 q32 g3
    clear hHeld
    (refine hK.out _ _ ?_ (fun hHeld => ?_))
    · exact P3.out.box.c0
    (refine wpAnyH_ready (rs := [6]) (by kernel_rfl) (by simp) ?_; refine AllReadyH.cons rfl (fun K hK => ?_) AllReadyH.nil; go_simp)
    refine (l02Bent_t b n k3 _ P3.out.src hn (by omega)).mono ?_
    rintro e4 W4 ⟨y, k4, rfl, wy, S4, q44, g4⟩
    have P4 := Lib.hid (P3.out.grown g4 S4)
    clear S4 g4
    obtain ⟨m4, n4⟩ := P4.out.cell0 hq
    clear hHeld
    (refine hK.out _ _ ?_ (fun hHeld => ?_))
    · exact P4.out.box.c0
    ((refine wpAnyH_take (i := 7) (oi := ⟨some 22, _, _, _, _, _⟩) (v := ?_) rfl (by kernel_rfl) (by kernel_rfl) (by kernel_rfl) (fun _ _ _ h => h) (Or.inl ⟨by rfl, ?_⟩) (by assumption) ?_; rotate_left 1; (focus (intro w hSw; (try dsimp only at hSw); go_simp <;> try (first | (with_reducible rfl) | (rw [if_neg (by omega)])))); try simp only [Act.put, List.setIfInBounds_toArray, List.set_cons_zero, List.set_cons_succ]))
    (refine wpAnyH_ready (rs := [8]) (by kernel_rfl) (by simp) ?_; refine AllReadyH.cons rfl (fun K hK => ?_) AllReadyH.nil; go_simp)
    have hgO : ¬ g = W1.heap.size := fun e => P4.out.n0 (by rw [e]; rfl)
    have v0 := (World.cell?_setCell_other W4 ⟨g, q, none⟩ ⟨W1.heap.size, 0, none⟩ (.int .i64 y) (by simp [hgO])).trans (P4.out.box.c0)
    (refine hK.out _ _ ?_ (fun hHeld => ?_))
    · exact v0
    refine wpAnyH_done (by kernel_rfl) ?_ _
    have R9 := Lib.hid (P4.out.put0 hq wy)
    have y0 := R9.out.res.c0
    have y1 := R9.out.res.c1
    have yf0 := R9.out.res.f 0
    have yf1 := R9.out.res.f 1
    have x0 := R9.out.box.c0
    have x1 := R9.out.box.c1
    have hOO := R9.out.hO
    go_wp2
    obtain ⟨t0, t1, t2, t3, t4, t5⟩ := R9.out.fin
    exact bodyPost_ret (v := .agg #[.slice (some ⟨g, 0, none⟩) m c0, .slice A1 m c1]) (by simp [results, Tryd.results40, go_sem, t0, t1]) rfl ⟨(some ⟨g, 0, none⟩), m, c0, A1, m, c1, _, _, _, rfl, by omega, by omega, R9.out.f0, R9.out.f1, t2, t3, t4, by omega, t5⟩
  by_cases r1 : r = 1
  · subst r1
    obtain ⟨g, rfl⟩ := P2.out.addr1 (by omega)
    have D2 := Lib.hid P2.out.drew
    have hOO := P2.out.hO
    have HR := Lib.hid (show ∀ X : World, Rd (X.alloc (.cells #[.int .i64 (-1), .int .i64 0, .int .i64 1000000000, .int .i64 1000000001, .int .i64 (-9223372036854775808)] 2)) (X.heap.size + 1) (some ⟨X.heap.size, 0, none⟩) 5 [-1, 0, 1000000000, 1000000001, -9223372036854775808] from fun X => rd_lit X 2 [-1, 0, 1000000000, 1000000001, -9223372036854775808] 5)
    have HY := Lib.hid (show ∀ y, y ∈ ([-1, 0, 1000000000, 1000000001, -9223372036854775808] : List Int) → (Lit.int .i64 y).wf = true from fun y h => by simp at h; exact WalkArith.wf_i64 (by omega))
    go_wp2_with fail
    refine wp_region_held_drew (S := fun w' => w'.cell? ⟨W1.heap.size, 1, none⟩ = some (.slice (some ⟨g, 0, none⟩) m c1)) (by kernel_rfl) P2.out.box.c1 (fun hHeld => ?_)
    ((refine wpAnyH_take (i := 0) (oi := ⟨some 25, _, _, _, _, _⟩) (v := ?_) rfl (by kernel_rfl) (by kernel_rfl) (by kernel_rfl) (fun _ _ _ h => h) (Or.inl ⟨by rfl, ?_⟩) (by assumption) ?_; rotate_left 1; (focus (intro w hSw; (try dsimp only at hSw); go_simp <;> try (first | (with_reducible rfl) | (rw [if_neg (by omega)])))); try simp only [Act.put, List.setIfInBounds_toArray, List.set_cons_zero, List.set_cons_succ]); (refine wpAnyH_take (i := 1) (oi := ⟨some 26, _, _, _, _, _⟩) (v := ?_) rfl (by kernel_rfl) (by kernel_rfl) (by kernel_rfl) (fun _ _ _ h => h) (Or.inl ⟨by rfl, ?_⟩) (by assumption) ?_; rotate_left 1; (focus (intro w hSw; (try dsimp only at hSw); go_simp <;> try (first | (with_reducible rfl) | (rw [if_neg (by omega)])))); try simp only [Act.put, List.setIfInBounds_toArray, List.set_cons_zero, List.set_cons_succ]); (refine wpAnyH_take (i := 2) (oi := ⟨some 27, _, _, _, _, _⟩) (v := ?_) rfl (by kernel_rfl) (by kernel_rfl) (by kernel_rfl) (fun _ _ _ h => h) (Or.inl ⟨by rfl, ?_⟩) (by assumption) ?_; rotate_left 1; (focus (intro w hSw; (try dsimp only at hSw); go_simp <;> try (first | (with_reducible rfl) | (rw [if_neg (by omega)])))); try simp only [Act.put, List.setIfInBounds_toArray, List.set_cons_zero, List.set_cons_succ]); (refine wpAnyH_take (i := 3) (oi := ⟨some 28, _, _, _, _, _⟩) (v := ?_) rfl (by kernel_rfl) (by kernel_rfl) (by kernel_rfl) (fun _ _ _ h => h) (Or.inl ⟨by rfl, ?_⟩) (by assumption) ?_; rotate_left 1; (focus (intro w hSw; (try dsimp only at hSw); go_simp <;> try (first | (with_reducible rfl) | (rw [if_neg (by omega)])))); try simp only [Act.put, List.setIfInBounds_toArray, List.set_cons_zero, List.set_cons_succ]); (refine wpAnyH_take (i := 5) (oi := ⟨some 30, _, _, _, _, _⟩) (v := ?_) rfl (by kernel_rfl) (by kernel_rfl) (by kernel_rfl) (fun _ _ _ h => h) (Or.inl ⟨by rfl, ?_⟩) (by assumption) ?_; rotate_left 1; (focus (intro w hSw; (try dsimp only at hSw); go_simp <;> try (first | (with_reducible rfl) | (rw [if_neg (by omega)])))); try simp only [Act.put, List.setIfInBounds_toArray, List.set_cons_zero, List.set_cons_succ]))
    refine wpAnyH_ready (rs := [4, 6]) (by kernel_rfl) (by simp) ?_
    refine AllReadyH.cons (o := ⟨some 29, _, _, _, _, _⟩) rfl (fun K hK => ?_) (AllReadyH.cons (o := ⟨some 31, _, _, _, _, _⟩) rfl (fun K hK => ?_) AllReadyH.nil)
    · go_simp
      refine (pick_t b n k2 (m : Int) _ D2.out.src hn (by omega) (by omega)).mono ?_
      rintro e3 W3 ⟨r3, k3, rfl, q30, q31, q32, S3, q34, g3⟩
      have q35 : r3 < (m : Int) := q31 (by omega)
      obtain ⟨q, rfl⟩ : ∃ q : Nat, r3 = (q : Int) := ⟨r3.toNat, by omega⟩
      have hq : q < m := by omega
      have P3 := Lib.hid (D2.out.grown g3 S3)
      clear S3 q31 q32 g3 hHeld
      (refine hK.out _ _ ?_ (fun hHeld => ?_))
      · exact P3.out.box.c1
      try simp only [Act.put, List.setIfInBounds_toArray, List.set_cons_zero, List.set_cons_succ]
      refine wpAnyH_ready (rs := [6]) (by kernel_rfl) (by simp) ?_
      refine AllReadyH.cons (o := ⟨some 31, _, _, _, _, _⟩) rfl (fun K hK => ?_) AllReadyH.nil
      go_simp
      clear hHeld
      (refine hK.out _ _ ?_ (fun hHeld => ?_))
      · exact (P3.out.alloc _).box.c1
      try simp only [Act.put, List.setIfInBounds_toArray, List.set_cons_zero, List.set_cons_succ]
      (refine wpAnyH_ready (rs := [7]) (by kernel_rfl) (by simp) ?_; refine AllReadyH.cons rfl (fun K hK => ?_) AllReadyH.nil; go_simp)
      refine (among_t b n k3 _ _ _ [-1, 0, 1000000000, 1000000001, -9223372036854775808] _ (P3.out.alloc _).src hn (by omega) (by omega) (by omega) (by have := HR.out W3; exact this.mono (by simp)) (by have := P3.out.hb; have := P3.out.gb.size; simp [ablk]; omega)).mono ?_
      rintro e4 W4 ⟨y, k4, rfl, hy, S4, q44, g4⟩
      have wy : (Lit.int .i64 y).wf = true := HY.out y hy
      have P4 := Lib.hid ((P3.out.alloc _).grown g4 S4)
      clear S4 g4 hy
      obtain ⟨m4, n4⟩ := P4.out.cell1 hq
      clear hHeld
      (refine hK.out _ _ ?_ (fun hHeld => ?_))
      · exact P4.out.box.c1
      ((refine wpAnyH_take (i := 8) (oi := ⟨some 33, _, _, _, _, _⟩) (v := ?_) rfl (by kernel_rfl) (by kernel_rfl) (by kernel_rfl) (fun _ _ _ h => h) (Or.inl ⟨by rfl, ?_⟩) (by assumption) ?_; rotate_left 1; (focus (intro w hSw; (try dsimp only at hSw); go_simp <;> try (first | (with_reducible rfl) | (rw [if_neg (by omega)])))); try simp only [Act.put, List.setIfInBounds_toArray, List.set_cons_zero, List.set_cons_succ]))
      (refine wpAnyH_ready (rs := [9]) (by kernel_rfl) (by simp) ?_; refine AllReadyH.cons rfl (fun K hK => ?_) AllReadyH.nil; go_simp)
      have hgO : ¬ g = W1.heap.size := fun e => P4.out.n1 (by rw [e]; rfl)
      have v0 := (World.cell?_setCell_other W4 ⟨g, q, none⟩ ⟨W1.heap.size, 1, none⟩ (.int .i64 y) (by simp [hgO])).trans (P4.out.box.c1)
      (refine hK.out _ _ ?_ (fun hHeld => ?_))
      · exact v0
      refine wpAnyH_done (by kernel_rfl) ?_ _
      have R9 := Lib.hid (P4.out.put1 hq wy)
      have y0 := R9.out.res.c0
      have y1 := R9.out.res.c1
      have yf0 := R9.out.res.f 0
      have yf1 := R9.out.res.f 1
      have x0 := R9.out.box.c0
      have x1 := R9.out.box.c1
      have hOO := R9.out.hO
      go_wp2
      obtain ⟨t0, t1, t2, t3, t4, t5⟩ := R9.out.fin
      exact bodyPost_ret (v := .agg #[.slice A0 m c0, .slice (some ⟨g, 0, none⟩) m c1]) (by simp [results, Tryd.results40, go_sem, t0, t1]) rfl ⟨A0, m, c0, (some ⟨g, 0, none⟩), m, c1, _, _, _, rfl, by omega, by omega, R9.out.f0, R9.out.f1, t2, t3, t4, by omega, t5⟩
    · go_simp
      clear hHeld
      have D2a := Lib.hid (D2.out.alloc (.cells #[.int .i64 (-1), .int .i64 0, .int .i64 1000000000, .int .i64 1000000001, .int .i64 (-9223372036854775808)] 2))
      (refine hK.out _ _ ?_ (fun hHeld => ?_))
      · exact D2a.out.box.c1
      try simp only [Act.put, List.setIfInBounds_toArray, List.set_cons_zero, List.set_cons_succ]
      (refine wpAnyH_ready (rs := [4]) (by kernel_rfl) (by simp) ?_; refine AllReadyH.cons rfl (fun K hK => ?_) AllReadyH.nil; go_simp)
      refine (pick_t b n k2 (m : Int) _ D2a.out.src hn (by omega) (by omega)).mono ?_
      rintro e3 W3 ⟨r3, k3, rfl, q30, q31, q32, S3, q34, g3⟩
      have q35 : r3 < (m : Int) := q31 (by omega)
      obtain ⟨q, rfl⟩ : ∃ q : Nat, r3 = (q : Int) := ⟨r3.toNat, by omega⟩
      have hq : q < m := by omega
      have P3 := Lib.hid (D2a.out.grown g3 S3)
      have HL := Lib.hid ((HR.out W2.drew).grown (by simp) g3 (fun _ => by have := P2.out.hb; have := P2.out.gb.size; show some W2.heap.size ≠ some b; simp; omega))
      have sz3 := g3.size
      simp at sz3
      clear S3 q31 q32 g3 hHeld
      (refine hK.out _ _ ?_ (fun hHeld => ?_))
      · exact P3.out.box.c1
      try simp only [Act.put, List.setIfInBounds_toArray, List.set_cons_zero, List.set_cons_succ]
      (refine wpAnyH_ready (rs := [7]) (by kernel_rfl) (by simp) ?_; refine AllReadyH.cons rfl (fun K hK => ?_) AllReadyH.nil; go_simp)
      refine (among_t b n k3 _ _ _ [-1, 0, 1000000000, 1000000001, -9223372036854775808] _ P3.out.src hn (by omega) (by omega) (by omega) (HL.out.mono (show W2.heap.size + 1 ≤ _ by omega)) (by have := P2.out.hb; have := P2.out.gb.size; show some W2.heap.size ≠ some b; simp; omega)).mono ?_
      rintro e4 W4 ⟨y, k4, rfl, hy, S4, q44, g4⟩
      have wy : (Lit.int .i64 y).wf = true := HY.out y hy
      have P4 := Lib.hid (P3.out.grown g4 S4)
      clear S4 g4 hy
      obtain ⟨m4, n4⟩ := P4.out.cell1 hq
      clear hHeld
      (refine hK.out _ _ ?_ (fun hHeld => ?_))
      · exact P4.out.box.c1
      ((refine wpAnyH_take (i := 8) (oi := ⟨some 33, _, _, _, _, _⟩) (v := ?_) rfl (by kernel_rfl) (by kernel_rfl) (by kernel_rfl) (fun _ _ _ h => h) (Or.inl ⟨by rfl, ?_⟩) (by assumption) ?_; rotate_left 1; (focus (intro w hSw; (try dsimp only at hSw); go_simp <;> try (first | (with_reducible rfl) | (rw [if_neg (by omega)])))); try simp only [Act.put, List.setIfInBounds_toArray, List.set_cons_zero, List.set_cons_succ]))
      (refine wpAnyH_ready (rs := [9]) (by kernel_rfl) (by simp) ?_; refine AllReadyH.cons rfl (fun K hK => ?_) AllReadyH.nil; go_simp)
      have hgO : ¬ g = W1.heap.size := fun e => P4.out.n1 (by rw [e]; rfl)
      have v0 := (World.cell?_setCell_other W4 ⟨g, q, none⟩ ⟨W1.heap.size, 1, none⟩ (.int .i64 y) (by simp [hgO])).trans (P4.out.box.c1)
      (refine hK.out _ _ ?_ (fun hHeld => ?_))
      · exact v0
      refine wpAnyH_done (by kernel_rfl) ?_ _
      have R9 := Lib.hid (P4.out.put1 hq wy)
      have y0 := R9.out.res.c0
      have y1 := R9.out.res.c1
      have yf0 := R9.out.res.f 0
      have yf1 := R9.out.res.f 1
      have x0 := R9.out.box.c0
      have x1 := R9.out.box.c1
      have hOO := R9.out.hO
      go_wp2
      obtain ⟨t0, t1, t2, t3, t4, t5⟩ := R9.out.fin
      exact bodyPost_ret (v := .agg #[.slice A0 m c0, .slice (some ⟨g, 0, none⟩) m c1]) (by simp [results, Tryd.results40, go_sem, t0, t1]) rfl ⟨A0, m, c0, (some ⟨g, 0, none⟩), m, c1, _, _, _, rfl, by omega, by omega, R9.out.f0, R9.out.f1, t2, t3, t4, by omega, t5⟩
  by_cases r2 : r = 2
  · subst r2
    have hm9 : m ≤ 1048576 := by omega
    have hsz : w.heap.size + 1 ≤ W2.heap.size := by have := P2.out.box.c0; have := World.block_lt_of_cell? _ _ this; have := P2.out.hO; simp at *; omega
    have hOO := P2.out.hO
    have x1_ := P2.out.box.c1
    go_wp2_with (at_builtin; refine wpl_appD rfl (.tmp 37) (.tmp 38) rfl W2 (w.heap.size + 1) m (.slice A1 m c1) vs 1000000000 rfl P2.out.o1 rfl hm9 hsz ?_; intro v' w3 own gb dis; obtain ⟨A', c', rfl⟩ := own_slice own; obtain ⟨B3, P3⟩ := P2.out.app1 (by decide) own gb dis; have e1 := B3.c1; have ef1 := B3.f 1; have R9 := Lib.hid P3.rs; have y0 := R9.out.res.c0; have y1 := R9.out.res.c1; have yf0 := R9.out.res.f 0; have yf1 := R9.out.res.f 1; have x0 := R9.out.box.c0; have x1 := R9.out.box.c1; clear own gb dis B3 P3 x1_)
    obtain ⟨t0, t1, t2, t3, t4, t5⟩ := R9.out.fin
    exact bodyPost_ret (v := .agg #[.slice A0 m c0, .slice A' (m + 1) c']) (by simp [results, Tryd.results40, go_sem, t0, t1]) rfl ⟨A0, m, c0, A', (m + 1), c', _, _, _, rfl, by omega, by omega, R9.out.f0, R9.out.f1, t2, t3, t4, by omega, t5⟩
  by_cases r3 : r = 3
  · subst r3
    have z0 := P2.out.box.c0
    have z1 := P2.out.box.c1
    have zf0 := P2.out.box.f 0
    have zf1 := P2.out.box.f 1
    have hOO := P2.out.hO
    have P3 := Lib.hid P2.out.clear
    have u0 := P3.out.res.c0
    have u1 := P3.out.res.c1
    clear u0 u1
    go_wp2
    go_loopw [5] (fun s5 wr => ∃ (i k3 : Nat) (B0 : Option Addr) (d0 : Nat) (B1 : Option Addr) (d1 : Nat) (xs ys : List Int), s5 = .int .i64 (i : Int) ∧ i ≤ 13 ∧ k3 ≤ k2 + 2 * i ∧ Hid (PS w wr b n k3 W1.heap.size B0 d0 i B1 d1 i xs ys)) (fun s5 _ => 13 - (intOf s5).toNat)
    case atStart => exact ⟨0, k2, none, 0, none, 0, [], [], rfl, by omega, by omega, P3.out⟩
    case round =>
      clear P3 z0 z1 zf0 zf1
      obtain ⟨i, k3, B0, d0, B1, d1, xs, ys, rfl, hi, hk3, P⟩ := hrel
      go_wp2_with fail
      refine (pick_t b n k3 2 _ P.out.src hn (by omega) (by omega)).mono ?_
      rintro e3 W3 ⟨r3, k4, rfl, q1, q2, q3, S3, q4, g3⟩
      have q5 : r3 < 2 := q2 (by omega)
      have P3 := Lib.hid (P.out.grown g3 S3)
      clear S3 q2 q3 g3
      by_cases hc : (i : Int) < 12 + r3
      · have hi2 : i ≤ 12 := by omega
        have hi9 : i ≤ 1048576 := by omega
        have x0 := P3.out.box.c0
        have x1 := P3.out.box.c1
        have hsz : w.heap.size + 1 ≤ W3.heap.size := by have := World.block_lt_of_cell? _ _ x0; have := P3.out.hO; simp at *; omega
        have wi := WalkArith.wf_i64 (n := (i : Int)) (by omega)
        have wi3 := WalkArith.wf_i64 (n := 3 * (i : Int)) (by omega)
        have WI := Lib.hid wi
        have WI3 := Lib.hid wi3
        clear wi wi3
        go_wp2_with (first | (at_builtin; refine wpl_appD rfl _ _ rfl W3 (w.heap.size + 1) i (.slice B0 i d0) xs (i : Int) rfl P3.out.o0 rfl hi9 hsz ?_; intro v0' w4 own0 gb0 dis0; obtain ⟨A', c', rfl⟩ := own_slice own0; obtain ⟨Bx, P4_⟩ := P3.out.app0 WI.out own0 gb0 dis0; have e0 := Bx.c0; have ef0 := Bx.f 0; have P4 := Lib.hid P4_; have y1 := P4.out.box.c1; have sz4 := Lib.hid (World.block_lt_of_cell? _ _ P4.out.box.c0); clear own0 gb0 dis0 Bx P4_ x0 x1) | (at_builtin; refine wpl_appD rfl (.tmp 58) (.tmp 61) rfl (w4.setCell ⟨W1.heap.size, 0, none⟩ (.slice A' (i + 1) c')) (w.heap.size + 1) i (.slice B1 i d1) ys (3 * (i : Int)) rfl P4.out.o1 ((show _ = Value.slice (some ⟨w4.heap.size, 0, none⟩) 1 1 from rfl).trans (by simp [World.setCell])) hi9 (Nat.le_trans (Nat.succ_le_of_lt hOO) (Nat.le_of_lt sz4.out)) ?_; intro v1' w5 own1 gb1 dis1; obtain ⟨A2, c2, rfl⟩ := own_slice own1; obtain ⟨Bx, P5_⟩ := P4.out.app1 WI3.out own1 gb1 dis1; have f1_ := Bx.c1; have ff1 := Bx.f 1; have P5 := Lib.hid P5_; clear own1 gb1 dis1 Bx P5_ y1 e0 ef0))
        go_roundw
        case rel => exact ⟨i + 1, k4, A', c', A2, c2, _, _, by go_num, by omega, by omega, P5.out⟩
        case measure => simp [intOf]; omega
      · have R9 := Lib.hid P3.out.rs
        have y0 := R9.out.res.c0
        have y1 := R9.out.res.c1
        have yf0 := R9.out.res.f 0
        have yf1 := R9.out.res.f 1
        have x0 := R9.out.box.c0
        have x1 := R9.out.box.c1
        have hOO := R9.out.hO
        go_wp2
        obtain ⟨t0, t1, t2, t3, t4, t5⟩ := R9.out.fin
        exact bodyPost_ret (v := .agg #[.slice B0 i d0, .slice B1 i d1]) (by simp [results, Tryd.results40, go_sem, t0, t1]) rfl ⟨B0, i, d0, B1, i, d1, _, _, _, rfl, by omega, by omega, R9.out.f0, R9.out.f1, t2, t3, t4, by omega, t5⟩
  by_cases r4 : r = 4
  · subst r4
    obtain ⟨g, rfl⟩ := P2.out.addr1 (by omega)
    obtain ⟨m4, n4⟩ := P2.out.cell1 (show m - 1 < m by omega)
    have z1 := P2.out.box.c1
    have hOO := P2.out.hO
    have i1 : (m : Int) - 1 < (m : Int) := by omega
    have i0 : (0 : Int) ≤ (m : Int) - 1 := by omega
    have i2 : m - 1 < m := by omega
    have R9 := Lib.hid (P2.out.put1 (show m - 1 < m by omega) (y := 1000000000) (by decide))
    have y0 := R9.out.res.c0
    have y1 := R9.out.res.c1
    have yf0 := R9.out.res.f 0
    have yf1 := R9.out.res.f 1
    have x0 := R9.out.box.c0
    have x1 := R9.out.box.c1
    have hOO := R9.out.hO
    go_wp2
    obtain ⟨t0, t1, t2, t3, t4, t5⟩ := R9.out.fin
    exact bodyPost_ret (v := .agg #[.slice A0 m c0, .slice (some ⟨g, 0, none⟩) m c1]) (by simp [results, Tryd.results40, go_sem, t0, t1]) rfl ⟨A0, m, c0, (some ⟨g, 0, none⟩), m, c1, _, _, _, rfl, by omega, by omega, R9.out.f0, R9.out.f1, t2, t3, t4, by omega, t5⟩
  have R9 := Lib.hid P2.out.rs
  have y0 := R9.out.res.c0
  have y1 := R9.out.res.c1
  have yf0 := R9.out.res.f 0
  have yf1 := R9.out.res.f 1
  have x0 := R9.out.box.c0
  have x1 := R9.out.box.c1
  have hOO := R9.out.hO
  go_wp2
  obtain ⟨t0, t1, t2, t3, t4, t5⟩ := R9.out.fin
  exact bodyPost_ret (v := .agg #[.slice A0 m c0, .slice A1 m c1]) (by simp [results, Tryd.results40, go_sem, t0, t1]) rfl ⟨A0, m, c0, A1, m, c1, _, _, _, rfl, by omega, by omega, R9.out.f0, R9.out.f1, t2, t3, t4, by omega, t5⟩

end Go.Proofs.YthjcpgabdlfojaaDoor
