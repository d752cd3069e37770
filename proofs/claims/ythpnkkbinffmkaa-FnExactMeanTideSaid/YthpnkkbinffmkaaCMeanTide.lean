import Derived.Test.YthpnkkbinffmkaaTideL
import Derived.Test.YthpnkkbinffmkaaIx
namespace Go.Proofs.Ythpnkkbinffmkaa
open Go.RowKit

/- caps: (ka0 : la0 ≤ ca0) -/

def mnD (n : Nat) (xs : List RTide) : Int := 2 * (tM xs (n - 1) - tM xs 0)
def r0_MeanTide (xa0 : List RTide) : Int := if TdOk xa0.length xa0 then fnum (mnN xa0 (xa0.length - 1)) (mnD xa0.length xa0) else 0
def r1_MeanTide (xa0 : List RTide) : Int := if TdOk xa0.length xa0 then fden (mnN xa0 (xa0.length - 1)) (mnD xa0.length xa0) else 0
def r2_MeanTide (xa0 : List RTide) : Int := tcode xa0.length xa0 True

set_option maxRecDepth 100000 in
set_option maxHeartbeats 3200000 in
theorem specC_MeanTide (a0 : Option Addr) (la0 ca0 : Nat) (xa0 : List RTide) (w : World) (ha0 : la0 ≤ 1048576) (ra0 : Rd_Tide w w.heap.size a0 la0 xa0) (fa0 : Wf_Tide xa0) (ka0 : la0 ≤ ca0) :
    Calls Try.prog 36 #[.slice a0 la0 ca0] w fun e w' => e = .returned (.tuple #[.agg #[.int .i64 (r0_MeanTide xa0), .int .i64 (r1_MeanTide xa0)], .int .i64 (r2_MeanTide xa0)]) ∧ Below w.heap.size w w' := by
  have hln := ra0.len
  have RA := Lib.hid ra0
  clear ra0 fa0 ka0
  by_cases h : TdOk la0 xa0
  · obtain ⟨N, hN⟩ : ∃ N, N = la0 - 1 := ⟨_, rfl⟩
    have hN1 : N + 1 = la0 := by have := h.2.1; omega
    have hN2 : 1 ≤ N ∧ N ≤ 39 := by have := h.2; omega
    have e0 : r0_MeanTide xa0 = fnum (mnN xa0 N) (mnD la0 xa0) := by unfold r0_MeanTide; rw [hln, if_pos h, hN]
    have e1 : r1_MeanTide xa0 = fden (mnN xa0 N) (mnD la0 xa0) := by unfold r1_MeanTide; rw [hln, if_pos h, hN]
    have e2 : r2_MeanTide xa0 = 0 := by unfold r2_MeanTide; rw [hln]; exact tcode_ok h trivial
    rw [e0, e1, e2]
    have HV := Lib.hid h
    have HD := Lib.hid (show mnD la0 xa0 = 2 * (tM xa0 N - tM xa0 0) by unfold mnD; rw [hN])
    obtain ⟨n1, n2⟩ := hN2
    clear e0 e1 e2 h hN
    go_enter Try.func36, Try.ntmps36
    go_wp2_with (first | (go_at_call 38; refine (l08Ok_any _ _ _ xa0 _ ha0 ((RA.out.below (by repeat (first | assumption | exact Below.refl _ _ | (refine Below.setCell ?_ (by first | omega | (simp; done) | (simp; omega)) _) | apply below_drewN | apply Below.drew | (refine Below.alloc ?_ (by first | omega | (simp; done) | (simp; omega)) _)))).mono (by first | omega | (simp; done) | (simp; omega))) true ⟨fun _ => HV.out, fun _ => rfl⟩).mono ?_; rintro eo W3 ⟨rfl, b0⟩; have s0 : w.heap.size < W3.heap.size := (by have := b0.size; simp at this; omega); obtain ⟨k1, g1⟩ := bcell b0; have v0 : W3.cell? ⟨w.heap.size, 0, none⟩ = some (.int .i64 0) := (by rw [k1 _ _ (by first | omega | (simp; done) | (simp; omega))]; first | (simp; done) | go_simp); have vf0 : W3.frozen? ⟨w.heap.size, 0, none⟩ = false := (by rw [g1 _ _ (by first | omega | (simp; done) | (simp; omega))]; first | (simp; done) | go_simp); have v1 : W3.cell? ⟨w.heap.size, 1, none⟩ = some (.int .i64 0) := (by rw [k1 _ _ (by first | omega | (simp; done) | (simp; omega))]; first | (simp; done) | go_simp); have vf1 : W3.frozen? ⟨w.heap.size, 1, none⟩ = false := (by rw [g1 _ _ (by first | omega | (simp; done) | (simp; omega))]; first | (simp; done) | go_simp); clear k1 g1; have d3 : Below w.heap.size w W3 := (by repeat (first | assumption | exact Below.refl _ _ | (refine Below.trans ?_ (b0.mono (by first | omega | (simp; done) | (simp; omega)))) | (refine Below.setCell ?_ (by first | omega | (simp; done) | (simp; omega)) _) | apply below_drewN | apply Below.drew | (refine Below.alloc ?_ (by first | omega | (simp; done) | (simp; omega)) _))); clear b0))
    go_loopw [4, 5] (fun s i wr => ∃ p : Nat, 1 ≤ p ∧ p ≤ la0 ∧ i = .int .i64 (p : Int) ∧ s = .int .i64 (mnN xa0 (p - 1)) ∧ Below W3.heap.size W3 wr) (fun _ i _ => la0 - (intOf i).toNat)
    case atStart => exact ⟨1, Nat.le_refl _, by omega, rfl, rfl, Below.refl _ _⟩
    case round =>
      obtain ⟨p, hp1, hk, rfl, rfl, hb⟩ := hrel
      have hsz := hb.size
      by_cases hlt : p < la0
      · obtain ⟨k, hkp⟩ : ∃ k, k = p - 1 := ⟨_, rfl⟩
        obtain ⟨ab, o, rfl, hbB, hc⟩ := (RA.out.below (d3.trans (hb.mono (by omega)))).ml (by omega)
        obtain ⟨p0, p1⟩ := hc k (by omega)
        obtain ⟨q0, q1⟩ := hc p hlt
        have x1 : (p : Int) - 1 = (k : Int) := by omega
        have hl0 := HV.out.l (k := k) (by omega)
        have hl1 := HV.out.l (k := p) hlt
        have hmk := HV.out.m (k := k) (by omega)
        have hmp := HV.out.m (k := p) hlt
        have hle0 := HV.out.le (i := 0) (j := k) (by omega) (by omega)
        have hm0 := HV.out.m (k := 0) (by omega)
        have hmn := mnN_bd HV.out k (by omega)
        have hmn1 := mnN_bd HV.out p hlt
        rw [← hkp]
        have ep : mnN xa0 p = mnN xa0 k + (tL xa0 k + tL xa0 p) * (tM xa0 p - tM xa0 k) := by
          obtain rfl : p = k + 1 := by omega
          rfl
        have HS := Lib.hid (show mnN xa0 (p + 1 - 1) = mnN xa0 k + (tL xa0 k + tL xa0 p) * (tM xa0 p - tM xa0 k) from ep)
        rw [ep] at hmn1
        clear hc hkp ep
        generalize mnN xa0 k = M at *
        generalize tM xa0 0 = m0 at *
        generalize tM xa0 k = y0 at *
        generalize tL xa0 k = y1 at *
        generalize tM xa0 p = y2 at *
        generalize tL xa0 p = y3 at *
        have f1 := IntWalk.i64_in (y1 + y3) (by omega)
        have f1' := IntWalk.i64_in (y3 + y1) (by omega)
        have ec : (y3 + y1) * (y2 - y0) = (y1 + y3) * (y2 - y0) := by rw [Int.add_comm y3]
        have f2 := IntWalk.wrap64_in ((y3 + y1) * (y2 - y0)) (by omega)
        have f3 := IntWalk.wrap64_in (M + (y3 + y1) * (y2 - y0)) (by omega)
        have HEC := Lib.hid ec
        clear ec
        go_wp2
        go_quiet (fail)
        go_wp2
        go_roundw
        case rel => exact ⟨p + 1, by omega, by omega, by go_num, by rw [HS.out, ← HEC.out, f3], (by repeat (first | assumption | exact Below.refl _ _ | (refine Below.setCell ?_ (by first | omega | (simp; done) | (simp; omega)) _) | apply below_drewN | apply Below.drew | (refine Below.alloc ?_ (by first | omega | (simp; done) | (simp; omega)) _)))⟩
        case measure => simp [intOf]; omega
      · obtain rfl : p = la0 := by omega
        obtain ⟨ab, o, rfl, hbB, hc⟩ := (RA.out.below (d3.trans (hb.mono (by omega)))).ml (by omega)
        obtain ⟨p0, p1⟩ := hc 0 (by omega)
        obtain ⟨q0, q1⟩ := hc N (by omega)
        rw [Nat.zero_mul, Nat.add_zero] at p0 p1
        have x2 : IntKind.i64.wrap ((p : Int) - 1) = (N : Int) := (IntWalk.i64_in _ (by omega)).trans (by omega)
        have hmn := mnN_bd HV.out N (by omega)
        have hm0 := HV.out.m (k := 0) (by omega)
        have hmk := HV.out.m (k := N) (by omega)
        have hlt0 := HV.out.lt (i := 0) (j := N) (by omega) (by omega)
        have g5 : (N : Int) < (p : Int) := by omega
        have g6 : (0 : Int) < (p : Int) := by omega
        have g7 : N < p := by omega
        have g8 : 0 < p := by omega
        have hab : ab < wr.heap.size := by omega
        have HEN := Lib.hid (show mnN xa0 (p - 1) = mnN xa0 N by rw [show p - 1 = N by omega])
        have y0' := (hb.cell (p := ⟨w.heap.size, 0, none⟩) (show w.heap.size < W3.heap.size by omega)).trans v0
        have y1' := (hb.cell (p := ⟨w.heap.size, 1, none⟩) (show w.heap.size < W3.heap.size by omega)).trans v1
        have yf0' := (hb.frozen (p := ⟨w.heap.size, 0, none⟩) (show w.heap.size < W3.heap.size by omega)).trans vf0
        have yf1' := (hb.frozen (p := ⟨w.heap.size, 1, none⟩) (show w.heap.size < W3.heap.size by omega)).trans vf1
        have dd : Below w.heap.size w wr := d3.trans (hb.mono (by omega))
        have s6 : w.heap.size < wr.heap.size := by omega
        have HR := Lib.hid (show mnD p xa0 = 2 * (tM xa0 N - tM xa0 0) from HD.out)
        rw [HEN.out]
        have l1 : ab ≠ w.heap.size := by omega
        clear hc v0 v1 vf0 vf1
        obtain ⟨M, hM⟩ : ∃ M, mnN xa0 N = M := ⟨_, rfl⟩
        rw [hM] at hmn ⊢
        have HMM := Lib.hid hM
        clear hM HEN
        generalize tM xa0 N = mk at *
        generalize tM xa0 0 = m0 at *
        have f5 : IntKind.i64.wrap (mk - m0) = mk - m0 := IntWalk.i64_in _ (by omega)
        have f6 : IntKind.i64.wrap (2 * (mk - m0)) = 2 * (mk - m0) := IntWalk.i64_in _ (by omega)
        go_wp2_with fail
        refine wp_region_held_drew (S := fun w' => w'.cell? ⟨ab, o, none⟩ = some (.int .i64 m0) ∧ w'.cell? ⟨ab, o + N * 2, none⟩ = some (.int .i64 mk)) (by kernel_rfl) ⟨p0, q0⟩ (fun hHeld => ?_)
        ((refine wpAnyH_take (i := 0) (oi := ⟨some 43, _, _, _, _, _⟩) (v := ?_) rfl (by kernel_rfl) (by kernel_rfl) (by kernel_rfl) (fun _ _ _ h => h) (Or.inl ⟨by rfl, ?_⟩) (by assumption) ?_; rotate_left 1; (focus (intro w hSw; (try dsimp only at hSw); go_simp <;> try (first | (with_reducible rfl) | (rw [if_neg (by omega)])))); try simp only [Act.put, List.setIfInBounds_toArray, List.set_cons_zero, List.set_cons_succ]); (refine wpAnyH_take (i := 1) (oi := ⟨some 44, _, _, _, _, _⟩) (v := ?_) rfl (by kernel_rfl) (by kernel_rfl) (by kernel_rfl) (fun _ _ _ h => h) (Or.inl ⟨by rfl, ?_⟩) (by assumption) ?_; rotate_left 1; (focus (intro w hSw; (try dsimp only at hSw); go_simp <;> try (first | (with_reducible rfl) | (rw [if_neg (by omega)])))); try simp only [Act.put, List.setIfInBounds_toArray, List.set_cons_zero, List.set_cons_succ]); (refine wpAnyH_take (i := 2) (oi := ⟨some 45, _, _, _, _, _⟩) (v := ?_) rfl (by kernel_rfl) (by kernel_rfl) (by kernel_rfl) (fun _ _ _ h => h) (Or.inl ⟨by rfl, ?_⟩) (by assumption) ?_; rotate_left 1; (focus (intro w hSw; (try dsimp only at hSw); go_simp <;> try (first | (with_reducible rfl) | (rw [if_neg (by omega)])))); try simp only [Act.put, List.setIfInBounds_toArray, List.set_cons_zero, List.set_cons_succ]); (refine wpAnyH_take (i := 8) (oi := ⟨some 51, _, _, _, _, _⟩) (v := ?_) rfl (by kernel_rfl) (by kernel_rfl) (by kernel_rfl) (fun _ _ _ h => h) (Or.inl ⟨by rfl, ?_⟩) (by assumption) ?_; rotate_left 1; (focus (intro w hSw; (try dsimp only at hSw); go_simp <;> try (first | (with_reducible rfl) | (rw [if_neg (by omega)])))); try simp only [Act.put, List.setIfInBounds_toArray, List.set_cons_zero, List.set_cons_succ]); (refine wpAnyH_take (i := 9) (oi := ⟨some 52, _, _, _, _, _⟩) (v := ?_) rfl (by kernel_rfl) (by kernel_rfl) (by kernel_rfl) (fun _ _ _ h => h) (Or.inl ⟨by rfl, ?_⟩) (by assumption) ?_; rotate_left 1; (focus (intro w hSw; (try dsimp only at hSw); go_simp <;> try (first | (with_reducible rfl) | (rw [if_neg (by omega)])))); try simp only [Act.put, List.setIfInBounds_toArray, List.set_cons_zero, List.set_cons_succ]); (refine wpAnyH_take (i := 10) (oi := ⟨some 53, _, _, _, _, _⟩) (v := ?_) rfl (by kernel_rfl) (by kernel_rfl) (by kernel_rfl) (fun _ _ _ h => h) (Or.inl ⟨by rfl, ?_⟩) (by assumption) ?_; rotate_left 1; (focus (intro w hSw; (try dsimp only at hSw); go_simp <;> try (first | (with_reducible rfl) | (rw [if_neg (by omega)])))); try simp only [Act.put, List.setIfInBounds_toArray, List.set_cons_zero, List.set_cons_succ]); (refine wpAnyH_take (i := 11) (oi := ⟨some 54, _, _, _, _, _⟩) (v := ?_) rfl (by kernel_rfl) (by kernel_rfl) (by kernel_rfl) (fun _ _ _ h => h) (Or.inl ⟨by rfl, ?_⟩) (by assumption) ?_; rotate_left 1; (focus (intro w hSw; (try dsimp only at hSw); go_simp <;> try (first | (with_reducible rfl) | (rw [if_neg (by omega)])))); try simp only [Act.put, List.setIfInBounds_toArray, List.set_cons_zero, List.set_cons_succ]))
        refine wpAnyH_ready (rs := [3]) (by kernel_rfl) (by simp) ?_
        refine AllReadyH.cons (o := ⟨some 46, _, _, _, _, _⟩) rfl (fun K hK => ?_) AllReadyH.nil
        go_simp
        (refine hK.out _ _ ?_ (fun hHeld => ?_))
        · first | exact hHeld | exact ⟨p0, q0⟩
        ((refine wpAnyH_take (i := 4) (oi := ⟨some 47, _, _, _, _, _⟩) (v := ?_) rfl (by kernel_rfl) (by kernel_rfl) (by kernel_rfl) (fun _ _ _ h => h) (Or.inl ⟨by rfl, ?_⟩) (by assumption) ?_; rotate_left 1; (focus (intro w hSw; (try dsimp only at hSw); go_simp <;> try (first | (with_reducible rfl) | (rw [if_neg (by omega)])))); try simp only [Act.put, List.setIfInBounds_toArray, List.set_cons_zero, List.set_cons_succ]); (refine wpAnyH_take (i := 5) (oi := ⟨some 48, _, _, _, _, _⟩) (v := ?_) rfl (by kernel_rfl) (by kernel_rfl) (by kernel_rfl) (fun _ _ _ h => h) (Or.inl ⟨by rfl, ?_⟩) (by assumption) ?_; rotate_left 1; (focus (intro w hSw; (try dsimp only at hSw); go_simp <;> try (first | (with_reducible rfl) | (rw [if_neg (by omega)])))); try simp only [Act.put, List.setIfInBounds_toArray, List.set_cons_zero, List.set_cons_succ]); (refine wpAnyH_take (i := 6) (oi := ⟨some 49, _, _, _, _, _⟩) (v := ?_) rfl (by kernel_rfl) (by kernel_rfl) (by kernel_rfl) (fun _ _ _ h => h) (Or.inl ⟨by rfl, ?_⟩) (by assumption) ?_; rotate_left 1; (focus (intro w hSw; (try dsimp only at hSw); go_simp <;> try (first | (with_reducible rfl) | (rw [if_neg (by omega)])))); try simp only [Act.put, List.setIfInBounds_toArray, List.set_cons_zero, List.set_cons_succ]); (refine wpAnyH_take (i := 7) (oi := ⟨some 50, _, _, _, _, _⟩) (v := ?_) rfl (by kernel_rfl) (by kernel_rfl) (by kernel_rfl) (fun _ _ _ h => h) (Or.inl ⟨by rfl, ?_⟩) (by assumption) ?_; rotate_left 1; (focus (intro w hSw; (try dsimp only at hSw); go_simp <;> try (first | (with_reducible rfl) | (rw [if_neg (by omega)])))); try simp only [Act.put, List.setIfInBounds_toArray, List.set_cons_zero, List.set_cons_succ]); (refine wpAnyH_take (i := 12) (oi := ⟨some 55, _, _, _, _, _⟩) (v := ?_) rfl (by kernel_rfl) (by kernel_rfl) (by kernel_rfl) (fun _ _ _ h => h) (Or.inl ⟨by rfl, ?_⟩) (by assumption) ?_; rotate_left 1; (focus (intro w hSw; (try dsimp only at hSw); go_simp <;> try (first | (with_reducible rfl) | (rw [if_neg (by omega)])))); try simp only [Act.put, List.setIfInBounds_toArray, List.set_cons_zero, List.set_cons_succ]); (refine wpAnyH_take (i := 13) (oi := ⟨some 56, _, _, _, _, _⟩) (v := ?_) rfl (by kernel_rfl) (by kernel_rfl) (by kernel_rfl) (fun _ _ _ h => h) (Or.inl ⟨by rfl, ?_⟩) (by assumption) ?_; rotate_left 1; (focus (intro w hSw; (try dsimp only at hSw); go_simp <;> try (first | (with_reducible rfl) | (rw [if_neg (by omega)])))); try simp only [Act.put, List.setIfInBounds_toArray, List.set_cons_zero, List.set_cons_succ]))
        refine wpAnyH_ready (rs := [14]) (by kernel_rfl) (by simp) ?_
        refine AllReadyH.cons (o := ⟨some 57, _, _, _, _, _⟩) rfl (fun K hK => ?_) AllReadyH.nil
        go_simp
        refine (spec_make M (2 * (mk - m0)) _ (by omega) (by omega) (by omega) (by omega)).mono ?_
        rintro e6 W6 ⟨rfl, b6⟩
        have d6 : Below w.heap.size w W6 := dd.trans ((below_drew' b6).mono (by omega))
        have z0 := (b6.cell (p := ⟨ab, o, none⟩) hab).trans hHeld.1
        have z1 := (b6.cell (p := ⟨ab, o + N * 2, none⟩) hab).trans hHeld.2
        have u0 : W6.cell? ⟨w.heap.size, 0, none⟩ = _ := (b6.cell (p := ⟨w.heap.size, 0, none⟩) s6).trans y0'; have uf0 : W6.frozen? ⟨w.heap.size, 0, none⟩ = _ := (b6.frozen (p := ⟨w.heap.size, 0, none⟩) s6).trans yf0'
        have u1 : W6.cell? ⟨w.heap.size, 1, none⟩ = _ := (b6.cell (p := ⟨w.heap.size, 1, none⟩) s6).trans y1'; have uf1 : W6.frozen? ⟨w.heap.size, 1, none⟩ = _ := (b6.frozen (p := ⟨w.heap.size, 1, none⟩) s6).trans yf1'
        clear hHeld
        (refine hK.out _ _ ?_ (fun hHeld => ?_))
        · exact ⟨z0, z1⟩
        refine wpAnyH_ready (rs := [15]) (by kernel_rfl) (by simp) ?_
        refine AllReadyH.cons (o := ⟨none, _, _, _, _, _⟩) rfl (fun K hK => ?_) AllReadyH.nil
        go_simp
        have y_0 := z0
        have y_1 := z1
        clear hHeld
        (refine hK.out _ _ ?_ (fun hHeld => ?_))
        · exact ⟨(by first | (simp; done) | go_simp), (by first | (simp; done) | go_simp)⟩
        ((refine wpAnyH_take (i := 16) (oi := ⟨some 3, _, _, _, _, _⟩) (v := ?_) rfl (by kernel_rfl) (by kernel_rfl) (by kernel_rfl) (fun _ _ _ h => h) (Or.inl ⟨by rfl, ?_⟩) (by assumption) ?_; rotate_left 1; (focus (intro w hSw; (try dsimp only at hSw); go_simp <;> try (first | (with_reducible rfl) | (rw [if_neg (by omega)])))); try simp only [Act.put, List.setIfInBounds_toArray, List.set_cons_zero, List.set_cons_succ]))
        refine wpAnyH_done (by kernel_rfl) ?_ _
        go_wp2
        exact bodyPost_ret (v := .tuple #[.agg #[.int .i64 (fnum M (2 * (mk - m0))), .int .i64 (fden M (2 * (mk - m0)))], .int .i64 0]) (by simp [results, Try.results36, go_sem, u0, u1, uf0, uf1]) rfl ⟨by rw [HR.out, HMM.out], (by repeat (first | assumption | exact Below.refl _ _ | (refine Below.trans ?_ (d6.mono (by first | omega | (simp; done) | (simp; omega)))) | (refine Below.setCell ?_ (by first | omega | (simp; done) | (simp; omega)) _) | apply below_drewN | apply Below.drew | (refine Below.alloc ?_ (by first | omega | (simp; done) | (simp; omega)) _)))⟩
  · have e0 : r0_MeanTide xa0 = 0 := by unfold r0_MeanTide; rw [hln, if_neg h]
    have e1 : r1_MeanTide xa0 = 0 := by unfold r1_MeanTide; rw [hln, if_neg h]
    have e2 : r2_MeanTide xa0 = 1 := by unfold r2_MeanTide; rw [hln]; exact tcode_bad h
    rw [e0, e1, e2]
    have HV := Lib.hid h
    clear e0 e1 e2 h
    go_enter Try.func36, Try.ntmps36
    go_wp2_with (first | (go_at_call 38; refine (l08Ok_any _ _ _ xa0 _ ha0 ((RA.out.below (by repeat (first | assumption | exact Below.refl _ _ | (refine Below.setCell ?_ (by first | omega | (simp; done) | (simp; omega)) _) | apply below_drewN | apply Below.drew | (refine Below.alloc ?_ (by first | omega | (simp; done) | (simp; omega)) _)))).mono (by first | omega | (simp; done) | (simp; omega))) false ⟨fun h => by simp at h, fun h => absurd h HV.out⟩).mono ?_; rintro eo W3 ⟨rfl, b0⟩; have s0 : w.heap.size < W3.heap.size := (by have := b0.size; simp at this; omega); obtain ⟨k1, g1⟩ := bcell b0; have v0 : W3.cell? ⟨w.heap.size, 0, none⟩ = some (.int .i64 0) := (by rw [k1 _ _ (by first | omega | (simp; done) | (simp; omega))]; first | (simp; done) | go_simp); have vf0 : W3.frozen? ⟨w.heap.size, 0, none⟩ = false := (by rw [g1 _ _ (by first | omega | (simp; done) | (simp; omega))]; first | (simp; done) | go_simp); have v1 : W3.cell? ⟨w.heap.size, 1, none⟩ = some (.int .i64 0) := (by rw [k1 _ _ (by first | omega | (simp; done) | (simp; omega))]; first | (simp; done) | go_simp); have vf1 : W3.frozen? ⟨w.heap.size, 1, none⟩ = false := (by rw [g1 _ _ (by first | omega | (simp; done) | (simp; omega))]; first | (simp; done) | go_simp); clear k1 g1; have d3 : Below w.heap.size w W3 := (by repeat (first | assumption | exact Below.refl _ _ | (refine Below.trans ?_ (b0.mono (by first | omega | (simp; done) | (simp; omega)))) | (refine Below.setCell ?_ (by first | omega | (simp; done) | (simp; omega)) _) | apply below_drewN | apply Below.drew | (refine Below.alloc ?_ (by first | omega | (simp; done) | (simp; omega)) _))); clear b0))
    exact bodyPost_ret (v := .tuple #[.agg #[.int .i64 0, .int .i64 0], .int .i64 1]) (by simp [results, Try.results36, go_sem, v0, v1, vf0, vf1]) rfl ⟨rfl, (by repeat (first | assumption | exact Below.refl _ _ | (refine Below.trans ?_ (d3.mono (by first | omega | (simp; done) | (simp; omega)))) | (refine Below.setCell ?_ (by first | omega | (simp; done) | (simp; omega)) _) | apply below_drewN | apply Below.drew | (refine Below.alloc ?_ (by first | omega | (simp; done) | (simp; omega)) _)))⟩

set_option maxRecDepth 100000 in
set_option maxHeartbeats 3200000 in
theorem implC_MeanTide (a0 : Option Addr) (la0 ca0 : Nat) (xa0 : List RTide) (w : World) (ha0 : la0 ≤ 1048576) (ra0 : Rd_Tide w w.heap.size a0 la0 xa0) (fa0 : Wf_Tide xa0) (ka0 : la0 ≤ ca0) :
    Calls Try.prog 37 #[.slice a0 la0 ca0] w fun e w' => e = .returned (.tuple #[.agg #[.int .i64 (r0_MeanTide xa0), .int .i64 (r1_MeanTide xa0)], .int .i64 (r2_MeanTide xa0)]) ∧ Below w.heap.size w w' := by
  have hln := ra0.len
  have RA := Lib.hid ra0
  clear ra0 fa0
  by_cases h : TdOk la0 xa0
  · obtain ⟨N, hN⟩ : ∃ N, N = la0 - 1 := ⟨_, rfl⟩
    have hN1 : N + 1 = la0 := by have := h.2.1; omega
    have hN2 : 1 ≤ N ∧ N ≤ 39 := by have := h.2; omega
    have e0 : r0_MeanTide xa0 = fnum (mnN xa0 N) (mnD la0 xa0) := by unfold r0_MeanTide; rw [hln, if_pos h, hN]
    have e1 : r1_MeanTide xa0 = fden (mnN xa0 N) (mnD la0 xa0) := by unfold r1_MeanTide; rw [hln, if_pos h, hN]
    have e2 : r2_MeanTide xa0 = 0 := by unfold r2_MeanTide; rw [hln]; exact tcode_ok h trivial
    rw [e0, e1, e2]
    have HC := Lib.hid (tcode_ok (P := True) h trivial)
    have HV := Lib.hid h
    have HD := Lib.hid (show mnD la0 xa0 = 2 * (tM xa0 N - tM xa0 0) by unfold mnD; rw [hN])
    obtain ⟨n1, n2⟩ := hN2
    clear e0 e1 e2 h hN
    go_enter Try.func37, Try.ntmps37
    go_wp2_with (first | (go_at_call 51; refine (tidesCode_t _ _ _ xa0 _ True _ ha0 ka0 ((RA.out.below (by repeat (first | assumption | exact Below.refl _ _ | (refine Below.setCell ?_ (by first | omega | (simp; done) | (simp; omega)) _) | apply below_drewN | apply Below.drew | (refine Below.alloc ?_ (by first | omega | (simp; done) | (simp; omega)) _)))).mono (by first | omega | (simp; done) | (simp; omega))) (fun _ => rfl) _ HC.out).mono ?_; rintro ed W2 ⟨rfl, b2⟩; have s2 : w.heap.size < W2.heap.size := (by have := b2.size; simp at this; omega); obtain ⟨k1, g1⟩ := bcell b2; have y0 : W2.cell? ⟨w.heap.size, 0, none⟩ = some (.int .i64 0) := (by rw [k1 _ _ (by first | omega | (simp; done) | (simp; omega))]; first | (simp; done) | go_simp); have yf0 : W2.frozen? ⟨w.heap.size, 0, none⟩ = false := (by rw [g1 _ _ (by first | omega | (simp; done) | (simp; omega))]; first | (simp; done) | go_simp); have y1 : W2.cell? ⟨w.heap.size, 1, none⟩ = some (.int .i64 0) := (by rw [k1 _ _ (by first | omega | (simp; done) | (simp; omega))]; first | (simp; done) | go_simp); have yf1 : W2.frozen? ⟨w.heap.size, 1, none⟩ = false := (by rw [g1 _ _ (by first | omega | (simp; done) | (simp; omega))]; first | (simp; done) | go_simp); clear k1 g1; have d2 : Below w.heap.size w W2 := (by repeat (first | assumption | exact Below.refl _ _ | (refine Below.trans ?_ (b2.mono (by first | omega | (simp; done) | (simp; omega)))) | (refine Below.setCell ?_ (by first | omega | (simp; done) | (simp; omega)) _) | apply below_drewN | apply Below.drew | (refine Below.alloc ?_ (by first | omega | (simp; done) | (simp; omega)) _))); clear b2) | (go_at_call 56; refine (flanks_t _ _ _ xa0 _ (by omega) ha0 ((RA.out.below d2).mono (by omega))).mono ?_; rintro e1 W3 ⟨FB, fd, rfl, b3, hw⟩; have HW := Lib.hid hw.rd; clear hw; have s3 := b3.size; obtain ⟨k3, g3⟩ := bcell b3; have v0 : W3.cell? ⟨w.heap.size, 0, none⟩ = some (.int .i64 0) := (by rw [k3 _ _ (by first | omega | (simp; done) | (simp; omega))]; first | (simp; done) | go_simp); have vf0 : W3.frozen? ⟨w.heap.size, 0, none⟩ = false := (by rw [g3 _ _ (by first | omega | (simp; done) | (simp; omega))]; first | (simp; done) | go_simp); have v1 : W3.cell? ⟨w.heap.size, 1, none⟩ = some (.int .i64 0) := (by rw [k3 _ _ (by first | omega | (simp; done) | (simp; omega))]; first | (simp; done) | go_simp); have vf1 : W3.frozen? ⟨w.heap.size, 1, none⟩ = false := (by rw [g3 _ _ (by first | omega | (simp; done) | (simp; omega))]; first | (simp; done) | go_simp); clear k3 g3; have d3 : Below w.heap.size w W3 := d2.trans (b3.mono (by omega)); clear b3))
    have HW2 := Lib.hid (show Rd_flank W3 W3.heap.size FB N (flL xa0 N) by have := HW.out; rw [show la0 - 1 = N by omega] at this; exact this)
    clear HW
    go_loopw [5, 6, 8, 18] (fun s t _ i wr => ∃ k : Nat, k ≤ N ∧ i = .int .i64 (k : Int) ∧ s = .int .i64 (mnN xa0 k) ∧ t = .int .i64 (tM xa0 k - tM xa0 0) ∧ Below W3.heap.size W3 wr) (fun _ _ _ i _ => N - (intOf i).toNat)
    case atStart => exact ⟨0, by omega, rfl, rfl, by simp, Below.refl _ _⟩
    case round =>
      obtain ⟨k, hk, rfl, rfl, rfl, hb⟩ := hrel
      have hsz := hb.size
      by_cases hlt : k < N
      · obtain ⟨fb, fo, rfl, hfb, hc⟩ := (HW2.out.below hb).fl (by omega)
        obtain ⟨p0, p1, p2, p3⟩ := hc k hlt
        have hl0 := HV.out.l (k := k) (by omega)
        have hl1 := HV.out.l (k := k + 1) (by omega)
        obtain ⟨u1, u2⟩ := HV.out.up (k := k) (by omega)
        have hm0 := HV.out.m (k := 0) (by omega)
        have hmk := HV.out.m (k := k) (by omega)
        have hmk1 := HV.out.m (k := k + 1) (by omega)
        have hle0 := HV.out.le (i := 0) (j := k) (by omega) (by omega)
        have hmn := mnN_bd HV.out k (by omega)
        have hmn1 := mnN_bd HV.out (k + 1) (by omega)
        have HS := Lib.hid (show mnN xa0 (k + 1) = mnN xa0 k + (tL xa0 k + tL xa0 (k + 1)) * (tM xa0 (k + 1) - tM xa0 k) from rfl)
        rw [HS.out] at hmn1
        have HT := Lib.hid (show tM xa0 (k + 1) - tM xa0 0 = tM xa0 k - tM xa0 0 + (tM xa0 (k + 1) - tM xa0 k) by omega)
        clear hc
        have hg3 : k < la0 - 1 := by omega
        generalize mnN xa0 k = M at *
        generalize tM xa0 0 = m0 at *
        generalize tM xa0 k = x0 at *
        generalize tL xa0 k = x1 at *
        obtain ⟨x2, hx2⟩ : ∃ x2, tM xa0 (k + 1) = x2 := ⟨_, rfl⟩
        rw [hx2] at p2 hmk1 u1 HS HT hmn1
        have HX2 := Lib.hid hx2
        clear hx2
        generalize tL xa0 (k + 1) = x3 at *
        obtain ⟨N1, hN1'⟩ : ∃ N1, N1 = x2 - x0 := ⟨_, rfl⟩
        have HN := Lib.hid hN1'.symm
        rw [← hN1'] at HS HT hmn1
        have f1 := IntWalk.i64_in (x1 + x3) (by omega)
        have f2 : IntKind.i64.wrap ((x1 + x3) * N1) = (x1 + x3) * N1 := IntWalk.i64_in _ (by omega)
        have f3 : IntKind.i64.wrap (M + (x1 + x3) * N1) = M + (x1 + x3) * N1 := IntWalk.i64_in _ (by omega)
        have f4 := IntWalk.wrap64_in (x0 - m0 + N1) (by omega)
        have hN2 : 0 ≤ N1 ∧ N1 ≤ 100000 := by omega
        obtain ⟨hN3, hN4⟩ := hN2
        clear hN1'
        go_wp2_with fail
        refine wp_region_held_drew (S := fun w' => w'.cell? ⟨wr.heap.size, 0, none⟩ = some (.int .i64 x0) ∧ w'.cell? ⟨wr.heap.size, 1, none⟩ = some (.int .i64 x1) ∧ w'.cell? ⟨wr.heap.size, 2, none⟩ = some (.int .i64 x2) ∧ w'.cell? ⟨wr.heap.size, 3, none⟩ = some (.int .i64 x3)) (by kernel_rfl) ⟨by simp, by simp, by simp, by simp⟩ (fun hHeld => ?_)
        ((refine wpAnyH_take (i := 0) (oi := ⟨some 22, _, _, _, _, _⟩) (v := ?_) rfl (by kernel_rfl) (by kernel_rfl) (by kernel_rfl) (fun _ _ _ h => h) (Or.inl ⟨by rfl, ?_⟩) (by assumption) ?_; rotate_left 1; (focus (intro w hSw; (try dsimp only at hSw); go_simp <;> try (first | (with_reducible rfl) | (rw [if_neg (by omega)])))); try simp only [Act.put, List.setIfInBounds_toArray, List.set_cons_zero, List.set_cons_succ]); (refine wpAnyH_take (i := 1) (oi := ⟨some 23, _, _, _, _, _⟩) (v := ?_) rfl (by kernel_rfl) (by kernel_rfl) (by kernel_rfl) (fun _ _ _ h => h) (Or.inl ⟨by rfl, ?_⟩) (by assumption) ?_; rotate_left 1; (focus (intro w hSw; (try dsimp only at hSw); go_simp <;> try (first | (with_reducible rfl) | (rw [if_neg (by omega)])))); try simp only [Act.put, List.setIfInBounds_toArray, List.set_cons_zero, List.set_cons_succ]); (refine wpAnyH_take (i := 2) (oi := ⟨some 24, _, _, _, _, _⟩) (v := ?_) rfl (by kernel_rfl) (by kernel_rfl) (by kernel_rfl) (fun _ _ _ h => h) (Or.inl ⟨by rfl, ?_⟩) (by assumption) ?_; rotate_left 1; (focus (intro w hSw; (try dsimp only at hSw); go_simp <;> try (first | (with_reducible rfl) | (rw [if_neg (by omega)])))); try simp only [Act.put, List.setIfInBounds_toArray, List.set_cons_zero, List.set_cons_succ]); (refine wpAnyH_take (i := 3) (oi := ⟨some 25, _, _, _, _, _⟩) (v := ?_) rfl (by kernel_rfl) (by kernel_rfl) (by kernel_rfl) (fun _ _ _ h => h) (Or.inl ⟨by rfl, ?_⟩) (by assumption) ?_; rotate_left 1; (focus (intro w hSw; (try dsimp only at hSw); go_simp <;> try (first | (with_reducible rfl) | (rw [if_neg (by omega)])))); try simp only [Act.put, List.setIfInBounds_toArray, List.set_cons_zero, List.set_cons_succ]); (refine wpAnyH_take (i := 4) (oi := ⟨some 26, _, _, _, _, _⟩) (v := ?_) rfl (by kernel_rfl) (by kernel_rfl) (by kernel_rfl) (fun _ _ _ h => h) (Or.inl ⟨by rfl, ?_⟩) (by assumption) ?_; rotate_left 1; (focus (intro w hSw; (try dsimp only at hSw); go_simp <;> try (first | (with_reducible rfl) | (rw [if_neg (by omega)])))); try simp only [Act.put, List.setIfInBounds_toArray, List.set_cons_zero, List.set_cons_succ]); (refine wpAnyH_take (i := 5) (oi := ⟨some 27, _, _, _, _, _⟩) (v := ?_) rfl (by kernel_rfl) (by kernel_rfl) (by kernel_rfl) (fun _ _ _ h => h) (Or.inl ⟨by rfl, ?_⟩) (by assumption) ?_; rotate_left 1; (focus (intro w hSw; (try dsimp only at hSw); go_simp <;> try (first | (with_reducible rfl) | (rw [if_neg (by omega)])))); try simp only [Act.put, List.setIfInBounds_toArray, List.set_cons_zero, List.set_cons_succ]); (refine wpAnyH_take (i := 6) (oi := ⟨some 28, _, _, _, _, _⟩) (v := ?_) rfl (by kernel_rfl) (by kernel_rfl) (by kernel_rfl) (fun _ _ _ h => h) (Or.inl ⟨by rfl, ?_⟩) (by assumption) ?_; rotate_left 1; (focus (intro w hSw; (try dsimp only at hSw); go_simp <;> try (first | (with_reducible rfl) | (rw [if_neg (by omega)])))); try simp only [Act.put, List.setIfInBounds_toArray, List.set_cons_zero, List.set_cons_succ]); (refine wpAnyH_take (i := 7) (oi := ⟨some 29, _, _, _, _, _⟩) (v := ?_) rfl (by kernel_rfl) (by kernel_rfl) (by kernel_rfl) (fun _ _ _ h => h) (Or.inl ⟨by rfl, ?_⟩) (by assumption) ?_; rotate_left 1; (focus (intro w hSw; (try dsimp only at hSw); go_simp <;> try (first | (with_reducible rfl) | (rw [if_neg (by omega)])))); try simp only [Act.put, List.setIfInBounds_toArray, List.set_cons_zero, List.set_cons_succ]); (refine wpAnyH_take (i := 8) (oi := ⟨some 30, _, _, _, _, _⟩) (v := ?_) rfl (by kernel_rfl) (by kernel_rfl) (by kernel_rfl) (fun _ _ _ h => h) (Or.inl ⟨by rfl, ?_⟩) (by assumption) ?_; rotate_left 1; (focus (intro w hSw; (try dsimp only at hSw); go_simp <;> try (first | (with_reducible rfl) | (rw [if_neg (by omega)])))); try simp only [Act.put, List.setIfInBounds_toArray, List.set_cons_zero, List.set_cons_succ]))
        refine wpAnyH_ready (rs := [9]) (by kernel_rfl) (by simp) ?_
        refine AllReadyH.cons (o := ⟨some 31, _, _, _, _, _⟩) rfl (fun K hK => ?_) AllReadyH.nil
        go_simp
        refine (fmin_t x0 x1 x2 x3 N1 _ HN.out (by omega) (by omega)).mono ?_
        rintro e4 W4 ⟨rfl, b4⟩
        have s4 : wr.heap.size < W4.heap.size := (by have := b4.size; (try simp at this); omega)
        have z0 := (b4.cell (p := ⟨wr.heap.size, 0, none⟩) (by first | omega | (simp; done) | (simp; omega))).trans hHeld.1
        have z1 := (b4.cell (p := ⟨wr.heap.size, 1, none⟩) (by first | omega | (simp; done) | (simp; omega))).trans hHeld.2.1
        have z2 := (b4.cell (p := ⟨wr.heap.size, 2, none⟩) (by first | omega | (simp; done) | (simp; omega))).trans hHeld.2.2.1
        have z3 := (b4.cell (p := ⟨wr.heap.size, 3, none⟩) (by first | omega | (simp; done) | (simp; omega))).trans hHeld.2.2.2
        have d4 : Below wr.heap.size wr W4 := (by repeat (first | assumption | exact Below.refl _ _ | (refine Below.trans ?_ (b4.mono (by first | omega | (simp; done) | (simp; omega)))) | (refine Below.setCell ?_ (by first | omega | (simp; done) | (simp; omega)) _) | apply below_drewN | apply Below.drew | (refine Below.alloc ?_ (by first | omega | (simp; done) | (simp; omega)) _)))
        clear hHeld
        (refine hK.out _ _ ?_ (fun hHeld => ?_))
        · exact ⟨z0, z1, z2, z3⟩
        ((refine wpAnyH_take (i := 10) (oi := ⟨some 32, _, _, _, _, _⟩) (v := ?_) rfl (by kernel_rfl) (by kernel_rfl) (by kernel_rfl) (fun _ _ _ h => h) (Or.inl ⟨by rfl, ?_⟩) (by assumption) ?_; rotate_left 1; (focus (intro w hSw; (try dsimp only at hSw); go_simp <;> try (first | (with_reducible rfl) | (rw [if_neg (by omega)])))); try simp only [Act.put, List.setIfInBounds_toArray, List.set_cons_zero, List.set_cons_succ]); (refine wpAnyH_take (i := 11) (oi := ⟨some 33, _, _, _, _, _⟩) (v := ?_) rfl (by kernel_rfl) (by kernel_rfl) (by kernel_rfl) (fun _ _ _ h => h) (Or.inl ⟨by rfl, ?_⟩) (by assumption) ?_; rotate_left 1; (focus (intro w hSw; (try dsimp only at hSw); go_simp <;> try (first | (with_reducible rfl) | (rw [if_neg (by omega)])))); try simp only [Act.put, List.setIfInBounds_toArray, List.set_cons_zero, List.set_cons_succ]); (refine wpAnyH_take (i := 12) (oi := ⟨some 5, _, _, _, _, _⟩) (v := ?_) rfl (by kernel_rfl) (by kernel_rfl) (by kernel_rfl) (fun _ _ _ h => h) (Or.inl ⟨by rfl, ?_⟩) (by assumption) ?_; rotate_left 1; (focus (intro w hSw; (try dsimp only at hSw); go_simp <;> try (first | (with_reducible rfl) | (rw [if_neg (by omega)])))); try simp only [Act.put, List.setIfInBounds_toArray, List.set_cons_zero, List.set_cons_succ]))
        refine wpAnyH_done (by kernel_rfl) ?_ _
        go_wp2_with (go_at_call 62; refine (fmin_t x0 x1 x2 x3 N1 _ HN.out (by omega) (by omega)).mono ?_; rintro e5 W5 ⟨rfl, b5⟩; have d5 : Below wr.heap.size wr W5 := d4.trans (b5.mono (by omega)))
        go_roundw
        case rel => exact ⟨k + 1, by omega, by go_num, by rw [HS.out], by rw [HX2.out, HT.out], hb.trans (d5.mono hsz)⟩
        case measure => simp [intOf]; omega
      · obtain rfl : k = N := by omega
        have hmn := mnN_bd HV.out k (by omega)
        have hm0 := HV.out.m (k := 0) (by omega)
        have hmk := HV.out.m (k := k) (by omega)
        have hlt0 := HV.out.lt (i := 0) (j := k) (by omega) (by omega)
        have g9 : ¬ k < la0 - 1 := by omega
        have HZ := hb
        have y0' := (hb.cell (p := ⟨w.heap.size, 0, none⟩) (show w.heap.size < W3.heap.size by omega)).trans v0
        have y1' := (hb.cell (p := ⟨w.heap.size, 1, none⟩) (show w.heap.size < W3.heap.size by omega)).trans v1
        have yf0' := (hb.frozen (p := ⟨w.heap.size, 0, none⟩) (show w.heap.size < W3.heap.size by omega)).trans vf0
        have yf1' := (hb.frozen (p := ⟨w.heap.size, 1, none⟩) (show w.heap.size < W3.heap.size by omega)).trans vf1
        have dd : Below w.heap.size w wr := d3.trans (hb.mono (by omega))
        have HR := Lib.hid (show mnD la0 xa0 = 2 * (tM xa0 k - tM xa0 0) from HD.out)
        obtain ⟨D, hD⟩ : ∃ D, D = 2 * (tM xa0 k - tM xa0 0) := ⟨_, rfl⟩
        rw [← hD] at HR
        have f5 := IntWalk.wrap64_in (2 * (tM xa0 k - tM xa0 0)) (by omega)
        have hD1 : 1 ≤ 2 * (tM xa0 k - tM xa0 0) := by omega
        have hD2 : 2 * (tM xa0 k - tM xa0 0) ≤ 200000 := by omega
        have HDD := Lib.hid hD
        clear hD y0 y1 yf0 yf1 v0 v1 vf0 vf1
        obtain ⟨M, hM⟩ : ∃ M, mnN xa0 k = M := ⟨_, rfl⟩
        rw [hM] at hmn ⊢
        have HMM := Lib.hid hM
        clear hM
        generalize tM xa0 k = mk at *
        generalize tM xa0 0 = m0 at *
        go_wp2_with (go_at_call 63; refine (impl_lowest M (2 * (mk - m0)) _ (by omega) (by omega) (by omega) (by omega)).mono ?_; rintro e6 W6 ⟨rfl, b6⟩; obtain ⟨k6, g6⟩ := bcell b6; have s6 : w.heap.size < wr.heap.size := (by have := dd.size; omega); have u0 : W6.cell? ⟨w.heap.size, 0, none⟩ = some (.int .i64 0) := (by rw [k6 _ _ (by first | omega | (simp; done) | (simp; omega))]; first | (simp; done) | go_simp); have uf0 : W6.frozen? ⟨w.heap.size, 0, none⟩ = false := (by rw [g6 _ _ (by first | omega | (simp; done) | (simp; omega))]; first | (simp; done) | go_simp); have u1 : W6.cell? ⟨w.heap.size, 1, none⟩ = some (.int .i64 0) := (by rw [k6 _ _ (by first | omega | (simp; done) | (simp; omega))]; first | (simp; done) | go_simp); have uf1 : W6.frozen? ⟨w.heap.size, 1, none⟩ = false := (by rw [g6 _ _ (by first | omega | (simp; done) | (simp; omega))]; first | (simp; done) | go_simp); clear k6 g6; have d6 : Below w.heap.size w W6 := dd.trans (b6.mono (by omega)); clear b6)
        exact bodyPost_ret (v := .tuple #[.agg #[.int .i64 (fnum M (2 * (mk - m0))), .int .i64 (fden M (2 * (mk - m0)))], .int .i64 0]) (by simp [results, Try.results37, go_sem, u0, u1, uf0, uf1]) rfl ⟨by rw [HD.out, HMM.out], (by repeat (first | assumption | exact Below.refl _ _ | (refine Below.trans ?_ (d6.mono (by first | omega | (simp; done) | (simp; omega)))) | (refine Below.setCell ?_ (by first | omega | (simp; done) | (simp; omega)) _) | apply below_drewN | apply Below.drew | (refine Below.alloc ?_ (by first | omega | (simp; done) | (simp; omega)) _)))⟩
  · have e0 : r0_MeanTide xa0 = 0 := by unfold r0_MeanTide; rw [hln, if_neg h]
    have e1 : r1_MeanTide xa0 = 0 := by unfold r1_MeanTide; rw [hln, if_neg h]
    have e2 : r2_MeanTide xa0 = 1 := by unfold r2_MeanTide; rw [hln]; exact tcode_bad h
    rw [e0, e1, e2]
    have HC := Lib.hid (tcode_bad (P := True) h)
    clear e0 e1 e2 h
    go_enter Try.func37, Try.ntmps37
    go_wp2_with (first | (go_at_call 51; refine (tidesCode_t _ _ _ xa0 _ True _ ha0 ka0 ((RA.out.below (by repeat (first | assumption | exact Below.refl _ _ | (refine Below.setCell ?_ (by first | omega | (simp; done) | (simp; omega)) _) | apply below_drewN | apply Below.drew | (refine Below.alloc ?_ (by first | omega | (simp; done) | (simp; omega)) _)))).mono (by first | omega | (simp; done) | (simp; omega))) (fun _ => rfl) _ HC.out).mono ?_; rintro ed W2 ⟨rfl, b2⟩; have s2 : w.heap.size < W2.heap.size := (by have := b2.size; simp at this; omega); obtain ⟨k1, g1⟩ := bcell b2; have y0 : W2.cell? ⟨w.heap.size, 0, none⟩ = some (.int .i64 0) := (by rw [k1 _ _ (by first | omega | (simp; done) | (simp; omega))]; first | (simp; done) | go_simp); have yf0 : W2.frozen? ⟨w.heap.size, 0, none⟩ = false := (by rw [g1 _ _ (by first | omega | (simp; done) | (simp; omega))]; first | (simp; done) | go_simp); have y1 : W2.cell? ⟨w.heap.size, 1, none⟩ = some (.int .i64 0) := (by rw [k1 _ _ (by first | omega | (simp; done) | (simp; omega))]; first | (simp; done) | go_simp); have yf1 : W2.frozen? ⟨w.heap.size, 1, none⟩ = false := (by rw [g1 _ _ (by first | omega | (simp; done) | (simp; omega))]; first | (simp; done) | go_simp); clear k1 g1; have d2 : Below w.heap.size w W2 := (by repeat (first | assumption | exact Below.refl _ _ | (refine Below.trans ?_ (b2.mono (by first | omega | (simp; done) | (simp; omega)))) | (refine Below.setCell ?_ (by first | omega | (simp; done) | (simp; omega)) _) | apply below_drewN | apply Below.drew | (refine Below.alloc ?_ (by first | omega | (simp; done) | (simp; omega)) _))); clear b2))
    exact bodyPost_ret (v := .tuple #[.agg #[.int .i64 0, .int .i64 0], .int .i64 1]) (by simp [results, Try.results37, go_sem, y0, y1, yf0, yf1]) rfl ⟨rfl, (by repeat (first | assumption | exact Below.refl _ _ | (refine Below.trans ?_ (d2.mono (by first | omega | (simp; done) | (simp; omega)))) | (refine Below.setCell ?_ (by first | omega | (simp; done) | (simp; omega)) _) | apply below_drewN | apply Below.drew | (refine Below.alloc ?_ (by first | omega | (simp; done) | (simp; omega)) _)))⟩

end Go.Proofs.Ythpnkkbinffmkaa
