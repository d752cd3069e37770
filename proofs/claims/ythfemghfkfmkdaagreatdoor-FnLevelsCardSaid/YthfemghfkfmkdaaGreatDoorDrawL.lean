/- Draws of levels, of their texts and of days. -/
import Derived.Test.YthfemghfkfmkdaaGreatDoorDrawW
import Derived.Test.YthfemghfkfmkdaaGreatDoorOwnS
import Derived.Test.YthfemghfkfmkdaaGreatDoorWFnExactLevelText
namespace Go.Proofs.YthfemghfkfmkdaaGreatDoor
open Go.RowKit

theorem Src.below {w w' : World} {b n k B : Nat} (h : Src w b n k) (hb : Below B w w') (hB : b < B) (_hz : B ≤ w.heap.size) : Src w' b n k := by
  have e := fun j => hb.cell (p := ⟨b, j, none⟩) hB
  obtain ⟨A, c, h0, h1⟩ := h.cd
  refine ⟨⟨A, c, (e 0).trans h0, fun hn => ?_⟩, (e 1).trans h.pos, by obtain ⟨s, hs⟩ := h.sd; exact ⟨s, (e 2).trans hs⟩, fun j => (hb.frozen (p := ⟨b, j, none⟩) hB).trans (h.fz j), Nat.lt_of_lt_of_le h.bs hb.size⟩
  obtain ⟨cb, off, rfl, hcb, hx⟩ := h1 hn
  refine ⟨cb, off, rfl, hcb, fun j hj => ?_⟩
  obtain ⟨x, hx1, hx2⟩ := hx j hj
  exact ⟨x, (hb.cell (p := ⟨cb, off + j, none⟩) (by show cb < B; omega)).trans hx1, hx2⟩
theorem gb_then {w wr w1 : World} {b B : Nat} (h : w.grownBy wr (some b)) (hb : Below B wr w1) (hB : w.heap.size ≤ B) : w.grownBy w1 (some b) :=
  ⟨hb.os.trans h.os, hb.tape.trans h.tape, hb.output.trans h.output, Nat.le_trans h.size hb.size, fun k hk hne => (hb.block k (by omega)).trans (h.block k hk hne)⟩
theorem own_far {w w' : World} {base n size : Nat} {e : TypeId} {v : Value} {xs : List Value} {b : Nat} (h : w.ownsRow base e size v n xs) (hg : w.grownBy w' (some b)) (hb : b < base) : w'.ownsRow base e size v n xs :=
  h.kept hg (.inr fun e => by have := (h.lt b e).1; omega)
theorem wr_far {W W' : World} {lo b : Nat} {A : Option Addr} {m : Nat} {xs : List Int} (h : Wr W lo A m xs) (hg : W.grownBy W' (some b)) (hb : b < lo) : Wr W' lo A m xs := h.grown hg (fun hm e => by
  obtain ⟨b', off, rfl, h0, _⟩ := h.2 hm
  have e' : b' = b := by simpa [ablk] using e
  omega)
theorem wf_nil : Wf [] := fun x h => by simp at h
theorem wf_app {xs : List Int} {y : Int} (h : Wf xs) (hy : (Lit.int .i64 y).wf = true) : Wf (xs ++ [y]) := fun x hx => by
  rcases List.mem_append.1 hx with h1 | h1
  · exact h x h1
  · simp at h1; rw [h1]; exact hy
theorem wf_zeros (m : Nat) : Wf (List.replicate m 0) := fun x hx => by
  rw [(List.mem_replicate.1 hx).2]; exact WalkArith.wf_i64 (by omega)
theorem wr_zeros (w : World) (lo m : Nat) (E : TypeId) (hlo : lo ≤ w.heap.size) : Wr (w.alloc (.cells (madeCells (Value.int .i64 0).cells m) E)) lo (some ⟨w.heap.size, 0, none⟩) m (List.replicate m 0) :=
  ⟨by simp, fun _ => ⟨w.heap.size, 0, rfl, hlo, by simp, fun j hj => by
    have h : (w.alloc (.cells (madeCells (Value.int .i64 0).cells m) E)).heap[w.heap.size]? = some (.cells (madeCells (Value.int .i64 0).cells m) E (0, 0)) := heap_alloc_new w _
    refine ⟨?_, frozen_of_row h _⟩
    rw [cell_of_row _ _ _ _ _ _ h]
    simp [madeCells, hj, Value.cells, Nat.mod_one, List.getD_eq_getElem?_getD]⟩⟩

set_option maxRecDepth 100000 in
set_option maxHeartbeats 3200000 in
theorem l02Levels_t (b n k : Nat) (w : World) (h : Src w b n k) (hn : n ≤ 1048576) (hk : k ≤ 1000000) :
    Calls Tryz.prog 65 #[.pointer (some ⟨b, 0, none⟩)] w fun e w' => ∃ (A : Option Addr) (c m : Nat) (xs : List Int) (k' : Nat), e = .returned (.slice A m c) ∧ Wr w' w.heap.size A m xs ∧ Wf xs ∧ m ≤ 61 ∧ Src w' b n k' ∧ k' ≤ k + 100 ∧ w.grownBy w' (some b) := by
  have H := Lib.hid h
  have hbs := h.bs
  clear h
  go_enter Tryz.func65, Tryz.ntmps65
  go_wp2_with fail
  refine (l02Draw_t b n k _ (H.out.alloc _) hn (by omega)).mono ?_
  rintro e0 W0 ⟨at0, k0, rfl, p1, p2, S0, p3, g0⟩
  have G0 := Lib.hid ((gb_alloc w (.cells #[] 2) (some b)).trans g0)
  have O0 : W0.ownsRow w.heap.size 2 1 (.slice (some ⟨w.heap.size, 0, none⟩) 0 0) 0 [] := own_far (owns_made rfl (Nat.le_refl _)) g0 hbs
  have HS0 := Lib.hid S0
  have HO0 := Lib.hid O0
  have z0 := g0.size
  simp only [World.size_alloc] at z0
  clear S0 O0 g0
  go_wp2_with fail
  refine (pick_t b n k0 8 _ HS0.out hn (by omega) (by omega)).mono ?_
  rintro e1 W1 ⟨r1, k1, rfl, q1, q2, q3, S1, q4, g1⟩
  have q5 : r1 < 8 := q2 (by omega)
  obtain ⟨t, rfl⟩ : ∃ t : Nat, r1 = (t : Int) := ⟨r1.toNat, by omega⟩
  have HS1 := Lib.hid S1
  have HG1 := Lib.hid (G0.out.trans g1)
  have HO1 := Lib.hid (own_far HO0.out g1 hbs)
  have z1 := g1.size
  clear S1 g1 q2 q3
  go_wp2
  go_loopw [3, 5, 6] (fun v i _ wr => ∃ (q p k2 : Nat) (xs : List Int), q + p = t ∧ i = .int .i64 (p : Int) ∧ Hid (Wf xs) ∧ xs.length = q ∧ Hid (Src wr b n k2) ∧ k2 ≤ k + 6 + 8 * q ∧ Hid (w.grownBy wr (some b)) ∧ w.heap.size < wr.heap.size ∧ Hid (wr.ownsRow w.heap.size 2 1 v q (xs.map (Value.int .i64)))) (fun _ i _ _ => (intOf i).toNat)
  case atStart => exact ⟨0, t, k1, [], by omega, rfl, Lib.hid wf_nil, rfl, HS1, by omega, HG1, by omega, HO1⟩
  case round =>
    obtain ⟨q, p, k2, xs, hqp, rfl, HX, hl, HS2, hk2, HG2, hz2, HOW⟩ := hrel
    by_cases hp : p = 0
    · subst hp
      go_wp2_with fail
      refine (pick_t b n k2 20 _ HS2.out hn (by omega) (by omega)).mono ?_
      rintro e3 W3 ⟨r3, k3, rfl, q6, q7, q8, S3, q9, g3⟩
      have HS3 := Lib.hid S3
      have HG3 := Lib.hid (HG2.out.trans g3)
      have HO3 := Lib.hid (own_far HOW.out g3 hbs)
      have z3 := g3.size
      clear S3 g3 q7 q8
      by_cases c0 : r3 = 0
      · subst c0
        go_wp2_with fail
        refine (l02Bent_t b n k3 _ HS3.out hn (by omega)).mono ?_
        rintro e4 W4 ⟨r4, k4, rfl, hr4, S4, q10, g4⟩
        have HR4 := Lib.hid hr4
        have HS4 := Lib.hid S4
        have HG4 := Lib.hid (HG3.out.trans g4)
        have HO4 := Lib.hid (own_far HO3.out g4 hbs)
        have z4 := g4.size
        clear S4 g4 hr4
        go_wp2_with (at_builtin; refine wpl_app1 rfl _ _ rfl _ w.heap.size q _ xs r4 rfl (by exact HO4.out) rfl (by omega) (by omega) ?_; intro v5 w5 hown5 hb5 hz5)
        obtain ⟨B, d, rfl, hw⟩ := own_wr hown5
        go_wp2
        go_ret
        exact ⟨B, d, q + 1, xs ++ [r4], k4, rfl, hw, wf_app HX.out HR4.out, by omega, HS4.out.below hb5 (by omega) (by omega), by omega, gb_then HG4.out hb5 (Nat.le_refl _)⟩
      · by_cases c1 : r3 = 1
        · subst c1
          go_wp2_with fail
          refine (pick_t b n k3 2 _ HS3.out hn (by omega) (by omega)).mono ?_
          rintro e4 W4 ⟨r4, k4, rfl, q10, q11, q12, S4, q13, g4⟩
          have q14 : r4 < 2 := q11 (by omega)
          obtain ⟨u, rfl⟩ : ∃ u : Nat, r4 = (u : Int) := ⟨r4.toNat, by omega⟩
          have HS4 := Lib.hid S4
          have HG4 := Lib.hid (HG3.out.trans g4)
          have z4 := g4.size
          obtain ⟨i0, hi, hi0, hi1, hi2⟩ := info_parts info_i64
          have hmk := fun W => run_make_rowN (P := Tryz.prog) 24 2 i0 (.int .i64 0) Tryz.underlying24 hi hi0 .i64 .i64 (60 + u) (60 + u) (Nat.le_refl _) (by rw [hi2]; omega) (by omega) W
          rw [hi1, Nat.mul_one, show ((60 + u : Nat) : Int) = 60 + (u : Int) by omega] at hmk
          clear S4 g4 q11 q12 hi hi0 hi1 hi2
          go_wp2
          go_ret
          exact ⟨_, _, 60 + u, List.replicate (60 + u) 0, k4, rfl, wr_zeros _ _ _ _ (by omega), wf_zeros _, by omega, HS4.out.alloc _, by omega, HG4.out.trans (gb_alloc _ _ _)⟩
        · obtain ⟨B, d, rfl, hw⟩ := own_wr HO3.out
          have HW := Lib.hid hw
          clear hw
          go_wp2
          go_ret
          exact ⟨B, d, q, xs, k3, rfl, HW.out, HX.out, by omega, HS3.out, by omega, HG3.out⟩
    · have hp1 : (0 : Int) < (p : Int) := by omega
      go_wp2_with fail
      refine (pick_t b n k2 21 _ HS2.out hn (by omega) (by omega)).mono ?_
      rintro e3 W3 ⟨r3, k3, rfl, q6, q7, q8, S3, q9, g3⟩
      have q10 : r3 < 21 := q7 (by omega)
      have HS3 := Lib.hid S3
      have HG3 := Lib.hid (HG2.out.trans g3)
      have HO3 := Lib.hid (own_far HOW.out g3 hbs)
      have z3 := g3.size
      clear S3 g3 q7 q8
      go_wp2_with fail
      refine (one_t b n k3 6 _ HS3.out hn (by omega) (by omega)).mono ?_
      rintro e4 W4 ⟨r4, k4, rfl, S4, q11, g4⟩
      have HS4 := Lib.hid S4
      have HG4 := Lib.hid (HG3.out.trans g4)
      have HO4 := Lib.hid (own_far HO3.out g4 hbs)
      have z4 := g4.size
      clear S4 g4
      cases r4
      · go_wp2_with (at_builtin; refine wpl_app1 rfl _ _ rfl _ w.heap.size q _ xs (at0 + r3 - 10) rfl (by exact HO4.out) rfl (by omega) (by omega) ?_; intro v5 w5 hown5 hb5 hz5)
        go_roundw
        case rel => exact ⟨q + 1, p - 1, k4, xs ++ [at0 + r3 - 10], by omega, by go_num, Lib.hid (wf_app HX.out (WalkArith.wf_i64 (by omega))), by simp [hl], Lib.hid (HS4.out.below hb5 (by omega) (by omega)), by omega, Lib.hid (gb_then HG4.out hb5 (Nat.le_refl _)), by omega, Lib.hid hown5⟩
        case measure => simp [intOf]; omega
      · go_wp2_with fail
        refine (pick_t b n k4 40 _ HS4.out hn (by omega) (by omega)).mono ?_
        rintro e5 W5 ⟨r5, k5, rfl, q12, q13, q14, S5, q15, g5⟩
        have q16 : r5 < 40 := q13 (by omega)
        have HS5 := Lib.hid S5
        have HG5 := Lib.hid (HG4.out.trans g5)
        have HO5 := Lib.hid (own_far HO4.out g5 hbs)
        have z5 := g5.size
        clear S5 g5 q13 q14
        go_wp2_with (at_builtin; refine wpl_app1 rfl _ _ rfl _ w.heap.size q _ xs (at0 + 10 * r5 - 200) rfl (by exact HO5.out) rfl (by omega) (by omega) ?_; intro v6 w6 hown6 hb6 hz6)
        go_roundw
        case rel => exact ⟨q + 1, p - 1, k5, xs ++ [at0 + 10 * r5 - 200], by omega, by go_num, Lib.hid (wf_app HX.out (WalkArith.wf_i64 (by omega))), by simp [hl], Lib.hid (HS5.out.below hb6 (by omega) (by omega)), by omega, Lib.hid (gb_then HG5.out hb6 (Nat.le_refl _)), by omega, Lib.hid hown6⟩
        case measure => simp [intOf]; omega

set_option maxRecDepth 100000 in
set_option maxHeartbeats 1600000 in
theorem l02By_t (A : Option Addr) (n c : Nat) (w : World) (h : ByR w A n) (hn : n ≤ 1048576) :
    Calls Tryz.prog 30 #[.slice A n c] w fun e w' => ∃ (B : Option Addr) (d m : Nat) (xs : List Int) (y : Int), e = .returned (.tuple #[.slice B m d, .int .i64 y]) ∧ Below w.heap.size w w' ∧ Wr w' w.heap.size B m xs ∧ Wf xs ∧ m ≤ 61 ∧ (Lit.int .i64 y).wf = true := by
  have H := Lib.hid h
  clear h
  go_enter Tryz.func30, Tryz.ntmps30
  go_wp2_with fail
  refine (l00From_t A n c w H.out).mono ?_
  rintro e1 W1 ⟨rfl, S1, b1⟩
  have z1 := S1.bs
  have HS1 := Lib.hid S1
  clear S1
  go_wp2_with fail
  refine (l02Levels_t w.heap.size n 0 _ HS1.out hn (by omega)).mono ?_
  rintro e2 W2 ⟨B, d, m, xs, k2, rfl, x2, wf2, hm, S2, q2, g2⟩
  have HX2 := Lib.hid x2
  have HF2 := Lib.hid wf2
  have HS2 := Lib.hid S2
  have D2 := Lib.hid (below_gb b1 g2 (Nat.le_refl _) b1.size)
  have z2 := g2.size
  clear x2 wf2 S2 g2 b1
  go_wp2_with fail
  refine (one_t w.heap.size n k2 10 _ HS2.out hn (by omega) (by omega)).mono ?_
  rintro e3 W3 ⟨r3, k3, rfl, S3, q3, g3⟩
  have HS3 := Lib.hid S3
  have D3 := Lib.hid (below_gb D2.out g3 (Nat.le_refl _) D2.out.size)
  have HX3 := Lib.hid (wr_far HX2.out g3 z1)
  have z3 := g3.size
  clear S3 g3
  cases r3
  · go_wp2_with fail
    refine (pick_t w.heap.size n k3 30 _ HS3.out hn (by omega) (by omega)).mono ?_
    rintro e4 W4 ⟨r4, k4, rfl, q4, q5, q6, S4, q7, g4⟩
    have q8 : r4 < 30 := q5 (by omega)
    have D4 := Lib.hid (below_gb D3.out g4 (Nat.le_refl _) D3.out.size)
    have HX4 := Lib.hid (wr_far HX3.out g4 z1)
    clear S4 g4 q5 q6
    go_wp2
    go_ret2
    exact ⟨B, d, m, xs, _, rfl, D4.out, HX4.out.lower (by omega), HF2.out, hm, WalkArith.wf_i64 (by omega)⟩
  · have HR := Lib.hid (rd_lit W3 2 [-1, 0, 1, 4000, 4001] 5)
    go_wp2_with fail
    refine (among_t w.heap.size n k3 _ _ _ [-1, 0, 1, 4000, 4001] _ (HS3.out.alloc _) hn (by omega) (by omega) (by omega) (by have := HR.out; exact this.mono (by simp)) (by simp [ablk]; omega)).mono ?_
    rintro e4 W4 ⟨r4, k4, rfl, q4, S4, q5, g4⟩
    have D4 := Lib.hid (below_gb (D3.out.alloc D3.out.size _) g4 (Nat.le_refl _) (by have := D3.out.size; simp; omega))
    have HX4 := Lib.hid (wr_far (HX3.out.below ((Below.refl _ _).alloc (Nat.le_refl _) _)) g4 z1)
    have HQ := Lib.hid q4
    clear S4 g4 q4
    go_wp2
    go_ret2
    refine ⟨B, d, m, xs, _, rfl, D4.out, HX4.out.lower (by omega), HF2.out, hm, ?_⟩
    have := HQ.out
    simp at this
    exact WalkArith.wf_i64 (by omega)

set_option maxHeartbeats 800000 in
theorem drawWrongGauges_t (A : Option Addr) (n c : Nat) (w : World) (h : ByR w A n) (hn : n ≤ 1048576) :
    Calls Tryz.prog 5 #[.slice A n c] w fun e w' => ∃ (B : Option Addr) (d m : Nat) (xs : List Int) (y : Int), e = .returned (.tuple #[.slice B m d, .int .i64 y]) ∧ Below w.heap.size w w' ∧ Wr w' w.heap.size B m xs ∧ Wf xs ∧ m ≤ 61 ∧ (Lit.int .i64 y).wf = true := by
  have H := Lib.hid h
  clear h
  go_enter Tryz.func5, Tryz.ntmps5
  go_wp2_with fail
  refine (l02By_t A n c w H.out hn).mono ?_
  rintro e1 W1 ⟨B, d, m, xs, y, rfl, b1, x1, f1, hm, hy⟩
  go_wp2
  go_ret2
  exact ⟨B, d, m, xs, y, rfl, b1, x1, f1, hm, hy⟩

set_option maxRecDepth 100000 in
set_option maxHeartbeats 1600000 in
theorem drawLevelOfGauge_t (A : Option Addr) (n c : Nat) (w : World) (h : ByR w A n) (hn : n ≤ 1048576) :
    Calls Tryz.prog 14 #[.slice A n c] w fun e w' => ∃ x y : Int, e = .returned (.tuple #[.int .i64 x, .int .i64 y]) ∧ Below w.heap.size w w' ∧ (Lit.int .i64 x).wf = true ∧ (Lit.int .i64 y).wf = true := by
  have H := Lib.hid h
  clear h
  go_enter Tryz.func14, Tryz.ntmps14
  go_wp2_with fail
  refine (l00From_t A n c w H.out).mono ?_
  rintro e1 W1 ⟨rfl, S1, b1⟩
  have z1 := b1.size
  have HS1 := Lib.hid S1
  clear S1
  go_wp2_with fail
  refine (l02Bent_t w.heap.size n 0 _ HS1.out hn (by omega)).mono ?_
  rintro e2 W2 ⟨x, k2, rfl, hx, S2, q2, g2⟩
  have HS2 := Lib.hid S2
  have HX := Lib.hid hx
  have D2 := Lib.hid (below_gb b1 g2 (Nat.le_refl _) z1)
  clear S2 g2 hx b1
  go_wp2_with fail
  refine (one_t w.heap.size n k2 8 _ HS2.out hn (by omega) (by omega)).mono ?_
  rintro e3 W3 ⟨r3, k3, rfl, S3, q3, g3⟩
  have HS3 := Lib.hid S3
  have D3 := Lib.hid (below_gb D2.out g3 (Nat.le_refl _) D2.out.size)
  clear S3 g3
  have z3 := D3.out.size
  cases r3
  · go_wp2_with fail
    refine (pick_t w.heap.size n k3 900 _ HS3.out hn (by omega) (by omega)).mono ?_
    rintro e4 W4 ⟨r4, k4, rfl, q4, q5, q6, S4, q7, g4⟩
    have q8 : r4 < 900 := q5 (by omega)
    have D4 := Lib.hid (below_gb D3.out g4 (Nat.le_refl _) D3.out.size)
    clear S4 g4 q5 q6
    go_wp2
    go_ret2
    exact ⟨x, _, rfl, D4.out, HX.out, WalkArith.wf_i64 (by omega)⟩
  · have HR := Lib.hid (rd_lit W3 2 [-1, 0, 10000, 10001, 9223372036854775807] 5)
    have hsb := HS3.out.bs
    go_wp2_with fail
    refine (among_t w.heap.size n k3 _ _ _ [-1, 0, 10000, 10001, 9223372036854775807] _ (HS3.out.alloc _) hn (by omega) (by omega) (by omega) (by have := HR.out; exact this.mono (by simp)) (by simp [ablk]; omega)).mono ?_
    rintro e4 W4 ⟨r4, k4, rfl, q4, S4, q5, g4⟩
    have D4 := Lib.hid (below_gb (D3.out.alloc D3.out.size _) g4 (Nat.le_refl _) (by have := D3.out.size; simp; omega))
    have HQ := Lib.hid q4
    clear S4 g4 q4
    go_wp2
    go_ret2
    refine ⟨x, _, rfl, D4.out, HX.out, ?_⟩
    have := HQ.out
    simp at this
    exact WalkArith.wf_i64 (by omega)

set_option maxRecDepth 100000 in
set_option maxHeartbeats 1600000 in
theorem drawLevelText_t (A : Option Addr) (n c : Nat) (w : World) (h : ByR w A n) (hn : n ≤ 1048576) :
    Calls Tryz.prog 17 #[.slice A n c] w fun e w' => ∃ x : Int, e = .returned (.int .i64 x) ∧ Below w.heap.size w w' ∧ (Lit.int .i64 x).wf = true := by
  have H := Lib.hid h
  clear h
  go_enter Tryz.func17, Tryz.ntmps17
  go_wp2_with fail
  refine (l00From_t A n c w H.out).mono ?_
  rintro e1 W1 ⟨rfl, S1, b1⟩
  have z1 := b1.size
  have HS1 := Lib.hid S1
  clear S1
  go_wp2_with fail
  refine (l02Bent_t w.heap.size n 0 _ HS1.out hn (by omega)).mono ?_
  rintro e2 W2 ⟨x, k2, rfl, hx, S2, q2, g2⟩
  have HX := Lib.hid hx
  have D2 := Lib.hid (below_gb b1 g2 (Nat.le_refl _) z1)
  clear S2 g2 hx b1
  go_wp2
  go_ret
  exact ⟨x, rfl, D2.out, HX.out⟩

set_option maxRecDepth 100000 in
set_option maxHeartbeats 1600000 in
theorem drawValidDay_t (A : Option Addr) (n c : Nat) (w : World) (h : ByR w A n) (hn : n ≤ 1048576) :
    Calls Tryz.prog 26 #[.slice A n c] w fun e w' => ∃ x : Int, e = .returned (.int .i64 x) ∧ Below w.heap.size w w' ∧ (Lit.int .i64 x).wf = true := by
  have H := Lib.hid h
  clear h
  go_enter Tryz.func26, Tryz.ntmps26
  go_wp2_with fail
  refine (l00From_t A n c w H.out).mono ?_
  rintro e1 W1 ⟨rfl, S1, b1⟩
  have z1 := b1.size
  have HS1 := Lib.hid S1
  have hsb := S1.bs
  clear S1
  have HR := Lib.hid (rd_lit W1 2 [-1, 0, 1, 500, 100000, 100001, -9223372036854775808] 7)
  go_wp2_with fail
  refine (among_t w.heap.size n 0 _ _ _ [-1, 0, 1, 500, 100000, 100001, -9223372036854775808] _ (HS1.out.alloc _) hn (by omega) (by omega) (by omega) (by have := HR.out; exact this.mono (by simp)) (by simp [ablk]; omega)).mono ?_
  rintro e4 W4 ⟨r4, k4, rfl, q4, S4, q5, g4⟩
  have D4 := Lib.hid (below_gb (b1.alloc z1 _) g4 (Nat.le_refl _) (by simp; omega))
  have HQ := Lib.hid q4
  clear S4 g4 q4
  go_wp2
  go_ret
  refine ⟨_, rfl, D4.out, ?_⟩
  have := HQ.out
  simp at this
  exact WalkArith.wf_i64 (by omega)

theorem levelB_sz (n : Int) (h1 : -2000 ≤ n) (h2 : n ≤ 2000) : (levelB n).size ≤ 100 ∧ 1 ≤ (levelB n).size := by
  have z1 := dS_len (n.natAbs / 100) (by omega)
  have z2 := dS_len (n.natAbs % 100 / 10) (by omega)
  have z3 := dS_len (n.natAbs % 10) (by omega)
  have z4 : (signB n).size = 1 := signB_len n
  have z5 : (⟨#[46]⟩ : ByteArray).size = 1 := rfl
  have z6 : (⟨#[109]⟩ : ByteArray).size = 1 := rfl
  unfold levelB
  simp only [ByteArray.size_append]
  omega
set_option maxRecDepth 100000 in
set_option maxHeartbeats 3200000 in
theorem drawReadLevel_t (A : Option Addr) (n c : Nat) (w : World) (h : ByR w A n) (hn : n ≤ 1048576) :
    Calls Tryz.prog 20 #[.slice A n c] w fun e w' => ∃ r : ByteArray, e = .returned (.string r) ∧ r.size ≤ 2000 ∧ Below w.heap.size w w' := by
  have H := Lib.hid h
  clear h
  go_enter Tryz.func20, Tryz.ntmps20
  go_wp2_with fail
  refine (l00From_t A n c w H.out).mono ?_
  rintro e1 W1 ⟨rfl, S1, b1⟩
  have z1 := b1.size
  have HS1 := Lib.hid S1
  clear S1
  go_wp2_with fail
  refine (l02Draw_t w.heap.size n 0 _ HS1.out hn (by omega)).mono ?_
  rintro e2 W2 ⟨x, k2, rfl, x1, x2, S2, q2, g2⟩
  have HS2 := Lib.hid S2
  have D2 := Lib.hid (below_gb b1 g2 (Nat.le_refl _) z1)
  clear S2 g2 b1
  go_wp2_with fail
  refine (text_spec x _ x1 x2).mono ?_
  rintro e3 W3 ⟨rfl, b3⟩
  have hz := (levelB_sz x x1 x2).1
  generalize levelB x = T at hz ⊢
  have HS3 := Lib.hid (HS2.out.grown (gb_of_below b3 none) (fun g e => by cases e))
  have D3 := Lib.hid (D2.out.trans (b3.mono D2.out.size))
  clear b3
  go_wp2_with fail
  refine (one_t w.heap.size n k2 3 _ HS3.out hn (by omega) (by omega)).mono ?_
  rintro e4 W4 ⟨r4, k4, rfl, S4, q4, g4⟩
  have HS4 := Lib.hid S4
  have D4 := Lib.hid (below_gb D3.out g4 (Nat.le_refl _) D3.out.size)
  clear S4 g4
  cases r4
  · go_wp2_with fail
    refine (one_t w.heap.size n k4 8 _ HS4.out hn (by omega) (by omega)).mono ?_
    rintro e5 W5 ⟨r5, k5, rfl, S5, q5, g5⟩
    have HS5 := Lib.hid S5
    have hsb := S5.bs
    have D5 := Lib.hid (below_gb D4.out g5 (Nat.le_refl _) D4.out.size)
    have z5 := D5.out.size
    clear S5 g5
    cases r5
    · go_wp2
      go_ret
      exact ⟨T, rfl, by omega, D5.out⟩
    · go_wp2_with fail
      refine (text_t w.heap.size n k5 _ _ _ [⟨#[]⟩, ⟨#[43, 50, 48, 46, 48, 48, 109]⟩, ⟨#[43, 50, 48, 46, 48, 49, 109]⟩, ⟨#[45, 48, 46, 48, 48, 109]⟩, ⟨#[43, 48, 49, 46, 48, 48, 109]⟩, ⟨#[43, 49, 46, 53, 109]⟩, ⟨#[49, 46, 53, 48, 109]⟩, ⟨#[45, 50, 48, 46, 48, 48, 109]⟩] _ (HS5.out.alloc _) hn (by omega) (by omega) (by omega) (by have := rdS_lit W5 9 [⟨#[]⟩, ⟨#[43, 50, 48, 46, 48, 48, 109]⟩, ⟨#[43, 50, 48, 46, 48, 49, 109]⟩, ⟨#[45, 48, 46, 48, 48, 109]⟩, ⟨#[43, 48, 49, 46, 48, 48, 109]⟩, ⟨#[43, 49, 46, 53, 109]⟩, ⟨#[49, 46, 53, 48, 109]⟩, ⟨#[45, 50, 48, 46, 48, 48, 109]⟩]; exact this.mono (by simp)) (by simp [ablk]; omega) (by simp; decide)).mono ?_
      rintro e6 W6 ⟨r6, k6, rfl, hr6, S6, q6, g6⟩
      have D6 := Lib.hid (below_gb (D5.out.alloc D5.out.size _) g6 (Nat.le_refl _) (by simp; omega))
      clear S6 g6
      go_wp2
      go_ret
      exact ⟨r6, rfl, by omega, D6.out⟩
  · go_wp2_with fail
    refine (spoil_t w.heap.size n k4 T _ HS4.out hn (by omega) (by omega)).mono ?_
    rintro e5 W5 ⟨r5, k5, rfl, hr5, S5, q5, g5⟩
    have D5 := Lib.hid (below_gb D4.out g5 (Nat.le_refl _) D4.out.size)
    clear S5 g5
    go_wp2
    go_ret
    exact ⟨r5, rfl, hr5, D5.out⟩

end Go.Proofs.YthfemghfkfmkdaaGreatDoor
