/- The level at a minute of a table, of the program and of the model. -/
import Derived.Test.YthpnkkbinffmkaaDoorTideG
namespace Go.Proofs.YthpnkkbinffmkaaDoor
open Go.RowKit

set_option maxHeartbeats 1600000 in
theorem levelCl_t (B1 B2 fb fo n d h : Nat) (hi : Int) (xs : List RTide) (m : Int) (w : World) (e : hi = (h : Int)) (hh : h < n) (hn : n ≤ 1048576) (c1 : w.cell? ⟨B1, 0, none⟩ = some (.slice (some ⟨fb, fo, none⟩) n d)) (c2 : w.cell? ⟨B2, 0, none⟩ = some (.int .i64 m)) (c3 : w.cell? ⟨fb, fo + h * 4 + 2, none⟩ = some (.int .i64 (tM xs (h + 1)))) (v : Bool) (hv : v = decide (m ≤ tM xs (h + 1))) :
    Calls Tryd.prog 78 #[.int .i64 hi, .pointer (some ⟨B1, 0, none⟩), .pointer (some ⟨B2, 0, none⟩)] w fun e w' => e = .returned (.bool v) ∧ Below w.heap.size w w' := by
  subst e
  have HV := Lib.hid hv
  have g1 : (h : Int) < (n : Int) := by omega
  have g0 : (0 : Int) ≤ (h : Int) := by omega
  clear hv
  generalize tM xs (h + 1) = z at *
  go_enter Tryd.func78, Tryd.ntmps78
  go_wp2
  go_quiet (fail)
  go_wp2
  go_ret
  exact ⟨ret_bool HV.out.symm, (by repeat (first | assumption | exact Below.refl _ _ | (refine Below.setCell ?_ (by first | omega | (simp; done) | (simp; omega)) _) | apply below_drewN | apply Below.drew | (refine Below.alloc ?_ (by first | omega | (simp; done) | (simp; omega)) _)))⟩

set_option maxRecDepth 100000 in
set_option maxHeartbeats 3200000 in
theorem levelAtT_t (A : Option Addr) (n c : Nat) (xs : List RTide) (m : Int) (w : World) (hn : n ≤ 1048576) (ha : Rd_Tide w w.heap.size A n xs) (h : TdOk n xs) (hm : inT n xs m) (i : Nat) (hi : OnFl n xs m i) :
    Calls Tryd.prog 68 #[.slice A n c, .int .i64 m] w fun e w' => e = .returned (.agg #[.int .i64 (fnum (tNu xs i m) (tDe xs i)), .int .i64 (fden (tNu xs i m) (tDe xs i))]) ∧ Below w.heap.size w w' := by
  have HA := Lib.hid ha
  have HV := Lib.hid h
  have HI := Lib.hid hi
  have HM := Lib.hid hm
  have h2 := h.2.1
  have h40 := h.2.2
  have HMO := Lib.hid (fun (a b : Nat) (hab : a ≤ b) (hb : b < n - 1) => h.le (i := a + 1) (j := b + 1) (by omega) (by omega))
  clear ha h hi hm
  go_enter Tryd.func68, Tryd.ntmps68
  go_wp2_with (first | (go_at_call 56; refine (flanks_t _ _ _ xs _ (by omega) hn ((HA.out.below (by repeat (first | assumption | exact Below.refl _ _ | (refine Below.setCell ?_ (by first | omega | (simp; done) | (simp; omega)) _) | apply below_drewN | apply Below.drew | (refine Below.alloc ?_ (by first | omega | (simp; done) | (simp; omega)) _)))).mono (by first | omega | (simp; done) | (simp; omega)))).mono ?_; rintro e1 W1 ⟨FB, fd, rfl, b1, hw⟩; have HW := Lib.hid hw.rd; have HLO := Lib.hid hw.2; clear hw; have s1 : w.heap.size + 1 < W1.heap.size := (by have := b1.size; simp at this; omega); obtain ⟨k1, f1⟩ := bcell b1; have v0 : W1.cell? ⟨w.heap.size, 0, none⟩ = some (.int .i64 m) := (by rw [k1 _ _ (by first | omega | (simp; done) | (simp; omega))]; first | (simp; done) | go_simp); have y0 : W1.cell? ⟨w.heap.size + 1, 0, none⟩ = some (.int .i64 0) := (by rw [k1 _ _ (by first | omega | (simp; done) | (simp; omega))]; first | (simp; done) | go_simp); have yf0 : W1.frozen? ⟨w.heap.size + 1, 0, none⟩ = false := (by rw [f1 _ _ (by first | omega | (simp; done) | (simp; omega))]; first | (simp; done) | go_simp); have y1 : W1.cell? ⟨w.heap.size + 1, 1, none⟩ = some (.int .i64 0) := (by rw [k1 _ _ (by first | omega | (simp; done) | (simp; omega))]; first | (simp; done) | go_simp); have yf1 : W1.frozen? ⟨w.heap.size + 1, 1, none⟩ = false := (by rw [f1 _ _ (by first | omega | (simp; done) | (simp; omega))]; first | (simp; done) | go_simp); clear k1 f1; have d1 : Below w.heap.size w W1 := (by repeat (first | assumption | exact Below.refl _ _ | (refine Below.trans ?_ (b1.mono (by first | omega | (simp; done) | (simp; omega)))) | (refine Below.setCell ?_ (by first | omega | (simp; done) | (simp; omega)) _) | apply below_drewN | apply Below.drew | (refine Below.alloc ?_ (by first | omega | (simp; done) | (simp; omega)) _))); clear b1))
  obtain ⟨fb, fo, rfl, hfb, hfc⟩ := HW.out.fl (by omega)
  have hlo : w.heap.size + 2 ≤ fb := by
    obtain ⟨b', o', e', h', _⟩ := HLO.out (by omega)
    injection e' with e'
    injection e' with e1' _
    simp at h'
    omega
  have HFC := Lib.hid hfc
  clear hfc
  have en : (((n - 1 : Nat) : Int)) = ((n - 1 : Nat) : Int) := rfl
  have hcl : ∀ (i : Int) (j : Nat) (W : World) (v : Bool), i = (j : Int) → j < n - 1 → Below (W1.alloc (.cells #[.slice (some ⟨fb, fo, none⟩) (n - 1) fd] 82)).heap.size (W1.alloc (.cells #[.slice (some ⟨fb, fo, none⟩) (n - 1) fd] 82)) W → v = decide (m ≤ tM xs (j + 1)) → Calls Tryd.prog 78 #[.int .i64 i, .pointer (some ⟨W1.heap.size, 0, none⟩), .pointer (some ⟨w.heap.size, 0, none⟩)] W fun e w' => e = .returned (.bool v) ∧ Below W.heap.size W w' := by
    intro i j W v hi hj hb hv
    have al := (Below.refl W1.heap.size W1).alloc (Nat.le_refl _) (.cells #[.slice (some ⟨fb, fo, none⟩) (n - 1) fd] 82)
    have t1 : W.cell? ⟨W1.heap.size, 0, none⟩ = some (.slice (some ⟨fb, fo, none⟩) (n - 1) fd) := (hb.cell (p := ⟨W1.heap.size, 0, none⟩) (by simp)).trans (by simp)
    have t2 : W.cell? ⟨w.heap.size, 0, none⟩ = some (.int .i64 m) := (hb.cell (p := ⟨w.heap.size, 0, none⟩) (show w.heap.size < _ by simp; omega)).trans ((al.cell (p := ⟨w.heap.size, 0, none⟩) (show w.heap.size < W1.heap.size by omega)).trans v0)
    have t3 : W.cell? ⟨fb, fo + j * 4 + 2, none⟩ = some (.int .i64 (tM xs (j + 1))) := (hb.cell (p := ⟨fb, fo + j * 4 + 2, none⟩) (show fb < _ by simp; omega)).trans ((al.cell (p := ⟨fb, fo + j * 4 + 2, none⟩) hfb).trans (HFC.out j hj).2.2.1)
    exact levelCl_t _ _ fb fo (n - 1) fd j i xs m W hi hj (by omega) t1 t2 t3 v hv
  go_wp2_with fail
  refine (srch_tl (.pointer (some ⟨W1.heap.size, 0, none⟩)) (.pointer (some ⟨w.heap.size, 0, none⟩)) (n - 1) (fun j => m ≤ tM xs (j + 1)) (fun a b hab hb hpa => by have := HMO.out a b hab hb; omega) _ (by omega) hcl).mono ?_
  rintro e2 W2 ⟨p, rfl, b2, g0, g1, g2⟩
  have hlt : p < n - 1 := by
    rcases Nat.lt_or_ge p (n - 1) with c | c
    · exact c
    · exact absurd (show m ≤ tM xs (n - 2 + 1) by rw [show n - 2 + 1 = n - 1 by omega]; exact HM.out.2) (g1 (n - 2) (by omega))
  have hon : OnFl n xs m p := ⟨by omega, by
    rcases Nat.eq_zero_or_pos p with hp | hp
    · rw [hp]; exact HM.out.1
    · have := g1 (p - 1) (by omega)
      rw [show p - 1 + 1 = p by omega] at this
      omega, g2 hlt⟩
  have bb : Below W1.heap.size W1 W2 := ((Below.refl W1.heap.size W1).alloc (Nat.le_refl _) _).trans (b2.mono (by simp))
  have s2 : W1.heap.size < W2.heap.size := by have := b2.size; simp at this; omega
  have s0 : W2.cell? ⟨W1.heap.size, 0, none⟩ = some (.slice (some ⟨fb, fo, none⟩) (n - 1) fd) := (b2.cell (p := ⟨W1.heap.size, 0, none⟩) (by simp)).trans (by simp)
  have v0 := (bb.cell (p := ⟨w.heap.size, 0, none⟩) (show w.heap.size < W1.heap.size by omega)).trans v0
  have y0 := (bb.cell (p := ⟨w.heap.size + 1, 0, none⟩) s1).trans y0
  have y1 := (bb.cell (p := ⟨w.heap.size + 1, 1, none⟩) s1).trans y1
  have yf0 := (bb.frozen (p := ⟨w.heap.size + 1, 0, none⟩) s1).trans yf0
  have yf1 := (bb.frozen (p := ⟨w.heap.size + 1, 1, none⟩) s1).trans yf1
  obtain ⟨q0, q1, q2, q3⟩ := HFC.out p hlt
  have q0 := (bb.cell (p := ⟨fb, fo + p * 4, none⟩) hfb).trans q0
  have q1 := (bb.cell (p := ⟨fb, fo + p * 4 + 1, none⟩) hfb).trans q1
  have q2 := (bb.cell (p := ⟨fb, fo + p * 4 + 2, none⟩) hfb).trans q2
  have q3 := (bb.cell (p := ⟨fb, fo + p * 4 + 3, none⟩) hfb).trans q3
  have d2 : Below w.heap.size w W2 := d1.trans (bb.mono (by omega))
  obtain ⟨hN1, hq1, hp1, hm1⟩ := hon.bd HV.out
  have hl0 := HV.out.l (k := p) (by omega)
  have hl1 := HV.out.l (k := p + 1) (by omega)
  have hl : -2000 ≤ tL xs p ∧ tL xs p ≤ 2000 ∧ -2000 ≤ tL xs (p + 1) ∧ tL xs (p + 1) ≤ 2000 := ⟨hl0.1, hl0.2, hl1.1, hl1.2⟩
  have hi1 := (HI.out.bd HV.out).1
  have HR := Lib.hid (show Ending.returned (.agg #[.int .i64 (fnum (tNu xs p m) (tDe xs p)), .int .i64 (fden (tNu xs p m) (tDe xs p))]) = Ending.returned (.agg #[.int .i64 (fnum (tNu xs i m) (tDe xs i)), .int .i64 (fden (tNu xs i m) (tDe xs i))]) by
    have hr := OnFl.ratio HV.out hon HI.out
    rw [frac_num hN1.1 hi1.1 hr, frac_den hN1.1 hi1.1 hr])
  have hnum : tL xs p * tDe xs p + (tL xs (p + 1) - tL xs p) * (m - tM xs p) = tNu xs p m := rfl
  have HN := Lib.hid (show tM xs (p + 1) - tM xs p = tDe xs p from rfl)
  have gp : (p : Int) < ((n - 1 : Nat) : Int) := by omega
  have gp0 : (0 : Int) ≤ (p : Int) := by omega
  have gp1 : (p : Int) < (n : Int) - 1 := by omega
  have gp2 : p < n - 1 := hlt
  clear hcl b2 bb g1 g2 hon d1 HW HFC HMO hl0 hl1 hi1 HI HM
  generalize tM xs p = x0 at *
  generalize tL xs p = x1 at *
  generalize tM xs (p + 1) = x2 at *
  generalize tL xs (p + 1) = x3 at *
  generalize tNu xs p m = num at *
  generalize tDe xs p = N at *
  go_wp2_with fail
  refine wp_region_held_drew (S := fun w' => w'.cell? ⟨W1.heap.size, 0, none⟩ = some (.slice (some ⟨fb, fo, none⟩) (n - 1) fd) ∧ w'.cell? ⟨w.heap.size, 0, none⟩ = some (.int .i64 m) ∧ w'.cell? ⟨fb, fo + p * 4, none⟩ = some (.int .i64 x0) ∧ w'.cell? ⟨fb, fo + p * 4 + 1, none⟩ = some (.int .i64 x1) ∧ w'.cell? ⟨fb, fo + p * 4 + 2, none⟩ = some (.int .i64 x2) ∧ w'.cell? ⟨fb, fo + p * 4 + 3, none⟩ = some (.int .i64 x3)) (by kernel_rfl) ⟨s0, v0, q0, q1, q2, q3⟩ (fun hHeld => ?_)
  ((refine wpAnyH_take (i := 0) (oi := ⟨some 13, _, _, _, _, _⟩) (v := ?_) rfl (by kernel_rfl) (by kernel_rfl) (by kernel_rfl) (fun _ _ _ h => h) (Or.inl ⟨by rfl, ?_⟩) (by assumption) ?_; rotate_left 1; (focus (intro w hSw; (try dsimp only at hSw); go_simp <;> try (first | (with_reducible rfl) | (rw [if_neg (by omega)])))); try simp only [Act.put, List.setIfInBounds_toArray, List.set_cons_zero, List.set_cons_succ]); (refine wpAnyH_take (i := 1) (oi := ⟨some 14, _, _, _, _, _⟩) (v := ?_) rfl (by kernel_rfl) (by kernel_rfl) (by kernel_rfl) (fun _ _ _ h => h) (Or.inl ⟨by rfl, ?_⟩) (by assumption) ?_; rotate_left 1; (focus (intro w hSw; (try dsimp only at hSw); go_simp <;> try (first | (with_reducible rfl) | (rw [if_neg (by omega)])))); try simp only [Act.put, List.setIfInBounds_toArray, List.set_cons_zero, List.set_cons_succ]); (refine wpAnyH_take (i := 2) (oi := ⟨some 15, _, _, _, _, _⟩) (v := ?_) rfl (by kernel_rfl) (by kernel_rfl) (by kernel_rfl) (fun _ _ _ h => h) (Or.inl ⟨by rfl, ?_⟩) (by assumption) ?_; rotate_left 1; (focus (intro w hSw; (try dsimp only at hSw); go_simp <;> try (first | (with_reducible rfl) | (rw [if_neg (by omega)])))); try simp only [Act.put, List.setIfInBounds_toArray, List.set_cons_zero, List.set_cons_succ]); (refine wpAnyH_take (i := 3) (oi := ⟨some 16, _, _, _, _, _⟩) (v := ?_) rfl (by kernel_rfl) (by kernel_rfl) (by kernel_rfl) (fun _ _ _ h => h) (Or.inl ⟨by rfl, ?_⟩) (by assumption) ?_; rotate_left 1; (focus (intro w hSw; (try dsimp only at hSw); go_simp <;> try (first | (with_reducible rfl) | (rw [if_neg (by omega)])))); try simp only [Act.put, List.setIfInBounds_toArray, List.set_cons_zero, List.set_cons_succ]); (refine wpAnyH_take (i := 4) (oi := ⟨some 17, _, _, _, _, _⟩) (v := ?_) rfl (by kernel_rfl) (by kernel_rfl) (by kernel_rfl) (fun _ _ _ h => h) (Or.inl ⟨by rfl, ?_⟩) (by assumption) ?_; rotate_left 1; (focus (intro w hSw; (try dsimp only at hSw); go_simp <;> try (first | (with_reducible rfl) | (rw [if_neg (by omega)])))); try simp only [Act.put, List.setIfInBounds_toArray, List.set_cons_zero, List.set_cons_succ]))
  refine wpAnyH_ready (rs := [5]) (by kernel_rfl) (by simp) ?_
  refine AllReadyH.cons (o := ⟨some 18, _, _, _, _, _⟩) rfl (fun K hK => ?_) AllReadyH.nil
  go_simp
  refine (fLevel_t x0 x1 x2 x3 m N num _ HN.out hN1 hl hm1 hnum hp1 hq1).mono ?_
  rintro e3 W3 ⟨rfl, b3⟩
  have z0 := (b3.cell (p := ⟨W1.heap.size, 0, none⟩) (show W1.heap.size < W2.heap.size by omega)).trans hHeld.1
  have z1 := (b3.cell (p := ⟨w.heap.size, 0, none⟩) (show w.heap.size < W2.heap.size by omega)).trans hHeld.2.1
  have z2 := (b3.cell (p := ⟨fb, fo + p * 4, none⟩) (show fb < W2.heap.size by omega)).trans hHeld.2.2.1
  have z3 := (b3.cell (p := ⟨fb, fo + p * 4 + 1, none⟩) (show fb < W2.heap.size by omega)).trans hHeld.2.2.2.1
  have z4 := (b3.cell (p := ⟨fb, fo + p * 4 + 2, none⟩) (show fb < W2.heap.size by omega)).trans hHeld.2.2.2.2.1
  have z5 := (b3.cell (p := ⟨fb, fo + p * 4 + 3, none⟩) (show fb < W2.heap.size by omega)).trans hHeld.2.2.2.2.2
  have r0 : W3.cell? ⟨w.heap.size + 1, 0, none⟩ = _ := (b3.cell (p := ⟨w.heap.size + 1, 0, none⟩) (show w.heap.size + 1 < W2.heap.size by omega)).trans y0; have rf0 : W3.frozen? ⟨w.heap.size + 1, 0, none⟩ = _ := (b3.frozen (p := ⟨w.heap.size + 1, 0, none⟩) (show w.heap.size + 1 < W2.heap.size by omega)).trans yf0
  have r1 : W3.cell? ⟨w.heap.size + 1, 1, none⟩ = _ := (b3.cell (p := ⟨w.heap.size + 1, 1, none⟩) (show w.heap.size + 1 < W2.heap.size by omega)).trans y1; have rf1 : W3.frozen? ⟨w.heap.size + 1, 1, none⟩ = _ := (b3.frozen (p := ⟨w.heap.size + 1, 1, none⟩) (show w.heap.size + 1 < W2.heap.size by omega)).trans yf1
  have d3 : Below w.heap.size w W3 := d2.trans ((below_drew' b3).mono (by omega))
  have l1 : fb ≠ w.heap.size + 1 := by omega
  have l2 : W1.heap.size ≠ w.heap.size + 1 := by omega
  clear hHeld
  (refine hK.out _ _ ?_ (fun hHeld => ?_))
  · exact ⟨z0, z1, z2, z3, z4, z5⟩
  refine wpAnyH_ready (rs := [6]) (by kernel_rfl) (by simp) ?_
  refine AllReadyH.cons (o := ⟨none, _, _, _, _, _⟩) rfl (fun K hK => ?_) AllReadyH.nil
  go_simp
  have y_0 := z0
  have y_1 := z1
  have y_2 := z2
  have y_3 := z3
  have y_4 := z4
  have y_5 := z5
  clear hHeld
  (refine hK.out _ _ ?_ (fun hHeld => ?_))
  · exact ⟨(by first | (simp; done) | go_simp), (by first | (simp; done) | go_simp), (by first | (simp; done) | go_simp), (by first | (simp; done) | go_simp), (by first | (simp; done) | go_simp), (by first | (simp; done) | go_simp)⟩
  refine wpAnyH_done (by kernel_rfl) ?_ _
  go_wp2
  exact bodyPost_ret (v := .agg #[.int .i64 (fnum num N), .int .i64 (fden num N)]) (by simp [results, Tryd.results68, go_sem, r0, r1, rf0, rf1]) rfl ⟨HR.out, (by repeat (first | assumption | exact Below.refl _ _ | (refine Below.trans ?_ (d3.mono (by first | omega | (simp; done) | (simp; omega)))) | (refine Below.setCell ?_ (by first | omega | (simp; done) | (simp; omega)) _) | apply below_drewN | apply Below.drew | (refine Below.alloc ?_ (by first | omega | (simp; done) | (simp; omega)) _)))⟩

set_option maxRecDepth 100000 in
set_option maxHeartbeats 3200000 in
theorem l08At_t (A : Option Addr) (n c : Nat) (xs : List RTide) (m : Int) (w : World) (hn : n ≤ 1048576) (ha : Rd_Tide w w.heap.size A n xs) (h : TdOk n xs) (hm : inT n xs m) (i : Nat) (hi : i = flF xs m (n - 2)) :
    Calls Tryd.prog 40 #[.slice A n c, .int .i64 m] w fun e w' => e = .returned (.tuple #[.int .i64 (tNu xs i m), .int .i64 (tDe xs i)]) ∧ Below w.heap.size w w' := by
  have HA := Lib.hid ha
  have HV := Lib.hid h
  have HI := Lib.hid hi
  have HM := Lib.hid hm
  have h2 := h.2.1
  have h40 := h.2.2
  have hmb : -1000000 ≤ m ∧ m ≤ 1000000 := by
    have a := h.m (k := 0) (by omega)
    have b := h.m (k := n - 1) (by omega)
    have := hm.1
    have := hm.2
    omega
  obtain ⟨mb1, mb2⟩ := hmb
  clear ha h hi hm
  go_enter Tryd.func40, Tryd.ntmps40
  go_wp2
  go_loop [6] (fun i => ∃ k : Nat, k + 1 < n ∧ i = .int .i64 (k : Int) ∧ Hid (tM xs k ≤ m)) (fun i => n - (intOf i).toNat)
  case atStart => exact ⟨0, by omega, rfl, HM.out.1⟩
  case round =>
    obtain ⟨k, hk, rfl, hr⟩ := hrel
    obtain ⟨ab, o, rfl, hbB, hc⟩ := HA.out.ml (by omega)
    obtain ⟨p, hp⟩ : ∃ p, p = k + 1 := ⟨_, rfl⟩
    obtain ⟨p0, p1⟩ := hc k (by omega)
    obtain ⟨q0, q1⟩ := hc p (by omega)
    have x1 : (k : Int) + 1 = (p : Int) := by omega
    have hpn : p < n := by omega
    clear hc
    by_cases hlt : k + 2 < n
    · have g1 : decide ((k : Int) + 2 < (n : Int)) = true := by simp; omega
      have g2 : (k : Int) + 2 < (n : Int) := by omega
      by_cases hg : tM xs p ≤ m
      · have HG := Lib.hid hg
        have HP := Lib.hid hp
        clear hp
        go_wp2
        go_round
        case rel => exact ⟨p, by have := HP.out; omega, by first | rfl | go_num, HG.out⟩
        case measure => have := HP.out; simp [intOf]; omega
      · have hon : i = k := by rw [HI.out]; exact flF_eq HV.out (by omega) (by omega) hr.out (fun _ => by rw [← hp]; omega) HM.out.1
        subst hon
        have hof : OnFl n xs m i := HI.out ▸ flF_on HV.out HM.out
        obtain ⟨hN1, hq1, hp1, hm1⟩ := hof.bd HV.out
        have HR := Lib.hid (show tL xs i * (tM xs p - tM xs i) + (tL xs p - tL xs i) * (m - tM xs i) = tNu xs i m by rw [hp]; rfl)
        have HD := Lib.hid (show tM xs p - tM xs i = tDe xs i by rw [hp]; rfl)
        have hll := HV.out.l (k := i) (by omega)
        have hl2 := HV.out.l (k := i + 1) (by omega)
        rw [← hp] at hl2 hp1
        rw [← HD.out] at hN1 hq1
        clear hof hr hp
        generalize tM xs p = x2 at *
        generalize tL xs p = x3 at *
        generalize tM xs i = x0 at *
        generalize tL xs i = x1' at *
        have f1 := IntWalk.i64_in (x2 - x0) (by omega)
        have f2 := IntWalk.i64_in (x1' * (x2 - x0)) (by omega)
        have f3 := IntWalk.i64_in ((x3 - x1') * (m - x0)) (by omega)
        have f4 := IntWalk.i64_in (x1' * (x2 - x0) + (x3 - x1') * (m - x0)) (by omega)
        have f5 := IntWalk.wrap64_in (x1' * (x2 - x0)) (by omega)
        have f6 := IntWalk.wrap64_in ((x3 - x1') * (m - x0)) (by omega)
        have f7 := IntWalk.wrap64_in (x1' * (x2 - x0) + (x3 - x1') * (m - x0)) (by omega)
        go_wp2
        go_ret2
        exact ⟨by simp [← HR.out, ← HD.out, f1, f2, f3, f4, f5, f6, f7], (by repeat (first | assumption | exact Below.refl _ _ | (refine Below.setCell ?_ (by first | omega | (simp; done) | (simp; omega)) _) | apply below_drewN | apply Below.drew | (refine Below.alloc ?_ (by first | omega | (simp; done) | (simp; omega)) _)))⟩
    · have g1 : decide ((k : Int) + 2 < (n : Int)) = false := by simp; omega
      have g2 : ¬ (k : Int) + 2 < (n : Int) := by omega
      have hon : i = k := by rw [HI.out]; exact flF_eq HV.out (by omega) (by omega) hr.out (fun c => absurd c (by omega)) HM.out.1
      subst hon
      have hof : OnFl n xs m i := HI.out ▸ flF_on HV.out HM.out
      obtain ⟨hN1, hq1, hp1, hm1⟩ := hof.bd HV.out
      have HR := Lib.hid (show tL xs i * (tM xs p - tM xs i) + (tL xs p - tL xs i) * (m - tM xs i) = tNu xs i m by rw [hp]; rfl)
      have HD := Lib.hid (show tM xs p - tM xs i = tDe xs i by rw [hp]; rfl)
      have hll := HV.out.l (k := i) (by omega)
      have hl2 := HV.out.l (k := i + 1) (by omega)
      rw [← hp] at hl2 hp1
      rw [← HD.out] at hN1 hq1
      clear hof hr hp
      generalize tM xs p = x2 at *
      generalize tL xs p = x3 at *
      generalize tM xs i = x0 at *
      generalize tL xs i = x1' at *
      have f1 := IntWalk.i64_in (x2 - x0) (by omega)
      have f2 := IntWalk.i64_in (x1' * (x2 - x0)) (by omega)
      have f3 := IntWalk.i64_in ((x3 - x1') * (m - x0)) (by omega)
      have f4 := IntWalk.i64_in (x1' * (x2 - x0) + (x3 - x1') * (m - x0)) (by omega)
      have f5 := IntWalk.wrap64_in (x1' * (x2 - x0)) (by omega)
      have f6 := IntWalk.wrap64_in ((x3 - x1') * (m - x0)) (by omega)
      have f7 := IntWalk.wrap64_in (x1' * (x2 - x0) + (x3 - x1') * (m - x0)) (by omega)
      go_wp2
      go_ret2
      exact ⟨by simp [← HR.out, ← HD.out, f1, f2, f3, f4, f5, f6, f7], (by repeat (first | assumption | exact Below.refl _ _ | (refine Below.setCell ?_ (by first | omega | (simp; done) | (simp; omega)) _) | apply below_drewN | apply Below.drew | (refine Below.alloc ?_ (by first | omega | (simp; done) | (simp; omega)) _)))⟩

end Go.Proofs.YthpnkkbinffmkaaDoor
