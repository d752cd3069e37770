import Derived.Test.YthpnkkbinffmkaaTideG
import Derived.Test.YthpnkkbinffmkaaIx
namespace Go.Proofs.Ythpnkkbinffmkaa
open Go.RowKit

/- caps: (ka0 : la0 ≤ ca0) -/

def r0_RangesOf (xa0 : List RTide) : List Int := if TdOk xa0.length xa0 then rgN xa0 (xa0.length - 1) else []
def r1_RangesOf (xa0 : List RTide) : Int := tcode xa0.length xa0 True
theorem len_r0_RangesOf (xa0 : List RTide) : (r0_RangesOf xa0).length ≤ 1048576 := by
  unfold r0_RangesOf
  split
  · rename_i h
    have := h.2.2
    rw [rgN_len]
    omega
  · simp

set_option maxHeartbeats 1600000 in
theorem specC_RangesOf (a0 : Option Addr) (la0 ca0 : Nat) (xa0 : List RTide) (w : World) (ha0 : la0 ≤ 1048576) (ra0 : Rd_Tide w w.heap.size a0 la0 xa0) (fa0 : Wf_Tide xa0) (ka0 : la0 ≤ ca0) :
    Calls Try.prog 27 #[.slice a0 la0 ca0] w fun e w' => ∃ B0 dB0, e = .returned (.tuple #[.slice B0 (r0_RangesOf xa0).length dB0, .int .i64 (r1_RangesOf xa0)]) ∧ Below w.heap.size w w' ∧ Wr w' w.heap.size B0 (r0_RangesOf xa0).length (r0_RangesOf xa0) := by
  have hln := ra0.len
  have RA := Lib.hid ra0
  clear ra0 fa0 ka0
  by_cases h : TdOk la0 xa0
  · have e0 : r0_RangesOf xa0 = rgN xa0 (la0 - 1) := by unfold r0_RangesOf; rw [hln, if_pos h]
    have e1 : r1_RangesOf xa0 = 0 := by unfold r1_RangesOf; rw [hln]; exact tcode_ok h trivial
    rw [e0, e1, rgN_len]
    have HV := Lib.hid h
    have h2 := h.2.1
    have h40 := h.2.2
    clear e0 e1 h
    go_enter Try.func27, Try.ntmps27
    go_wp2_with (first | (go_at_call 38; refine (l08Ok_any _ _ _ xa0 _ ha0 RA.out true ⟨fun _ => HV.out, fun _ => rfl⟩).mono ?_; rintro eo W0 ⟨rfl, b0⟩; have s0 := b0.size))
    go_loopw [4, 5] (fun v i wr => ∃ p : Nat, 1 ≤ p ∧ p ≤ la0 ∧ i = .int .i64 (p : Int) ∧ Below w.heap.size w wr ∧ w.heap.size ≤ wr.heap.size ∧ wr.ownsRow w.heap.size 2 1 v (p - 1) ((rgN xa0 (p - 1)).map (Value.int .i64))) (fun _ i _ => la0 - (intOf i).toNat)
    case atStart => exact ⟨1, Nat.le_refl _, by omega, rfl, (by repeat (first | assumption | exact Below.refl _ _ | (refine Below.trans ?_ (b0.mono (by first | omega | (simp; done) | (simp; omega)))) | (refine Below.setCell ?_ (by first | omega | (simp; done) | (simp; omega)) _) | apply below_drewN | apply Below.drew | (refine Below.alloc ?_ (by first | omega | (simp; done) | (simp; omega)) _))), by simp; omega, owns_made rfl s0⟩
    case round =>
      obtain ⟨p, hp1, hk, rfl, hb, hz, hown⟩ := hrel
      by_cases hlt : p < la0
      · obtain ⟨k, hkp⟩ : ∃ k, k = p - 1 := ⟨_, rfl⟩
        obtain ⟨ab, o, rfl, hbB, hc⟩ := (RA.out.below hb).ml (by omega)
        obtain ⟨p0, p1⟩ := hc k (by omega)
        obtain ⟨q0, q1⟩ := hc p hlt
        rw [← hkp] at hown
        have g2 : (p : Int) - 1 = (k : Int) := by omega
        have hl0 := HV.out.l (k := k) (by omega)
        have hl1 := HV.out.l (k := p) hlt
        have HS := Lib.hid (show (rgN xa0 k) ++ [((tL xa0 p - tL xa0 k).natAbs : Int)] = rgN xa0 (p + 1 - 1) by
          obtain rfl : p = k + 1 := by omega
          rfl)
        have HKL := Lib.hid (show p + 1 - 1 = k + 1 by omega)
        clear hc hkp
        generalize tM xa0 k = m0 at *
        generalize tL xa0 k = l0 at *
        generalize tM xa0 p = m1 at *
        generalize tL xa0 p = l1 at *
        generalize rgN xa0 k = L at *
        have f1 := IntWalk.i64_in (l1 - l0) (by omega)
        have hab : ab < wr.heap.size := by omega
        have AL := fun (O : Obj) => ((Below.refl wr.heap.size wr).drew.alloc (Nat.le_refl _) O)
        have x2 : IntKind.i64.wrap ((p : Int) - 1) = (k : Int) := (IntWalk.i64_in _ (by omega)).trans (by omega)
        have g3 : k < la0 := by omega
        have g4 : (k : Int) < (la0 : Int) := by omega
        have g5 : (p : Int) < (la0 : Int) := by omega
        clear g2
        go_wp2_with fail
        refine wp_region_held_drew (S := fun w' => w'.cell? ⟨ab, o + k * 2 + 1, none⟩ = some (.int .i64 l0) ∧ w'.cell? ⟨ab, o + p * 2 + 1, none⟩ = some (.int .i64 l1)) (by kernel_rfl) ⟨p1, q1⟩ (fun hHeld => ?_)
        ((refine wpAnyH_take (i := 0) (oi := ⟨some 16, _, _, _, _, _⟩) (v := ?_) rfl (by kernel_rfl) (by kernel_rfl) (by kernel_rfl) (fun _ _ _ h => h) (Or.inl ⟨by rfl, ?_⟩) (by assumption) ?_; rotate_left 1; (focus (intro w hSw; (try dsimp only at hSw); go_simp <;> try (first | (with_reducible rfl) | (rw [if_neg (by omega)])))); try simp only [Act.put, List.setIfInBounds_toArray, List.set_cons_zero, List.set_cons_succ]); (refine wpAnyH_take (i := 1) (oi := ⟨some 17, _, _, _, _, _⟩) (v := ?_) rfl (by kernel_rfl) (by kernel_rfl) (by kernel_rfl) (fun _ _ _ h => h) (Or.inl ⟨by rfl, ?_⟩) (by assumption) ?_; rotate_left 1; (focus (intro w hSw; (try dsimp only at hSw); go_simp <;> try (first | (with_reducible rfl) | (rw [if_neg (by omega)])))); try simp only [Act.put, List.setIfInBounds_toArray, List.set_cons_zero, List.set_cons_succ]); (refine wpAnyH_take (i := 2) (oi := ⟨some 18, _, _, _, _, _⟩) (v := ?_) rfl (by kernel_rfl) (by kernel_rfl) (by kernel_rfl) (fun _ _ _ h => h) (Or.inl ⟨by rfl, ?_⟩) (by assumption) ?_; rotate_left 1; (focus (intro w hSw; (try dsimp only at hSw); go_simp <;> try (first | (with_reducible rfl) | (rw [if_neg (by omega)])))); try simp only [Act.put, List.setIfInBounds_toArray, List.set_cons_zero, List.set_cons_succ]); (refine wpAnyH_take (i := 3) (oi := ⟨some 19, _, _, _, _, _⟩) (v := ?_) rfl (by kernel_rfl) (by kernel_rfl) (by kernel_rfl) (fun _ _ _ h => h) (Or.inl ⟨by rfl, ?_⟩) (by assumption) ?_; rotate_left 1; (focus (intro w hSw; (try dsimp only at hSw); go_simp <;> try (first | (with_reducible rfl) | (rw [if_neg (by omega)])))); try simp only [Act.put, List.setIfInBounds_toArray, List.set_cons_zero, List.set_cons_succ]); (refine wpAnyH_take (i := 4) (oi := ⟨some 20, _, _, _, _, _⟩) (v := ?_) rfl (by kernel_rfl) (by kernel_rfl) (by kernel_rfl) (fun _ _ _ h => h) (Or.inl ⟨by rfl, ?_⟩) (by assumption) ?_; rotate_left 1; (focus (intro w hSw; (try dsimp only at hSw); go_simp <;> try (first | (with_reducible rfl) | (rw [if_neg (by omega)])))); try simp only [Act.put, List.setIfInBounds_toArray, List.set_cons_zero, List.set_cons_succ]); (refine wpAnyH_take (i := 5) (oi := ⟨some 21, _, _, _, _, _⟩) (v := ?_) rfl (by kernel_rfl) (by kernel_rfl) (by kernel_rfl) (fun _ _ _ h => h) (Or.inl ⟨by rfl, ?_⟩) (by assumption) ?_; rotate_left 1; (focus (intro w hSw; (try dsimp only at hSw); go_simp <;> try (first | (with_reducible rfl) | (rw [if_neg (by omega)])))); try simp only [Act.put, List.setIfInBounds_toArray, List.set_cons_zero, List.set_cons_succ]); (refine wpAnyH_take (i := 6) (oi := ⟨some 22, _, _, _, _, _⟩) (v := ?_) rfl (by kernel_rfl) (by kernel_rfl) (by kernel_rfl) (fun _ _ _ h => h) (Or.inl ⟨by rfl, ?_⟩) (by assumption) ?_; rotate_left 1; (focus (intro w hSw; (try dsimp only at hSw); go_simp <;> try (first | (with_reducible rfl) | (rw [if_neg (by omega)])))); try simp only [Act.put, List.setIfInBounds_toArray, List.set_cons_zero, List.set_cons_succ]); (refine wpAnyH_take (i := 7) (oi := ⟨some 23, _, _, _, _, _⟩) (v := ?_) rfl (by kernel_rfl) (by kernel_rfl) (by kernel_rfl) (fun _ _ _ h => h) (Or.inl ⟨by rfl, ?_⟩) (by assumption) ?_; rotate_left 1; (focus (intro w hSw; (try dsimp only at hSw); go_simp <;> try (first | (with_reducible rfl) | (rw [if_neg (by omega)])))); try simp only [Act.put, List.setIfInBounds_toArray, List.set_cons_zero, List.set_cons_succ]); (refine wpAnyH_take (i := 8) (oi := ⟨some 24, _, _, _, _, _⟩) (v := ?_) rfl (by kernel_rfl) (by kernel_rfl) (by kernel_rfl) (fun _ _ _ h => h) (Or.inl ⟨by rfl, ?_⟩) (by assumption) ?_; rotate_left 1; (focus (intro w hSw; (try dsimp only at hSw); go_simp <;> try (first | (with_reducible rfl) | (rw [if_neg (by omega)])))); try simp only [Act.put, List.setIfInBounds_toArray, List.set_cons_zero, List.set_cons_succ]); (refine wpAnyH_take (i := 9) (oi := ⟨some 25, _, _, _, _, _⟩) (v := ?_) rfl (by kernel_rfl) (by kernel_rfl) (by kernel_rfl) (fun _ _ _ h => h) (Or.inl ⟨by rfl, ?_⟩) (by assumption) ?_; rotate_left 1; (focus (intro w hSw; (try dsimp only at hSw); go_simp <;> try (first | (with_reducible rfl) | (rw [if_neg (by omega)])))); try simp only [Act.put, List.setIfInBounds_toArray, List.set_cons_zero, List.set_cons_succ]); (refine wpAnyH_take (i := 10) (oi := ⟨some 26, _, _, _, _, _⟩) (v := ?_) rfl (by kernel_rfl) (by kernel_rfl) (by kernel_rfl) (fun _ _ _ h => h) (Or.inl ⟨by rfl, ?_⟩) (by assumption) ?_; rotate_left 1; (focus (intro w hSw; (try dsimp only at hSw); go_simp <;> try (first | (with_reducible rfl) | (rw [if_neg (by omega)])))); try simp only [Act.put, List.setIfInBounds_toArray, List.set_cons_zero, List.set_cons_succ]); (refine wpAnyH_take (i := 11) (oi := ⟨some 27, _, _, _, _, _⟩) (v := ?_) rfl (by kernel_rfl) (by kernel_rfl) (by kernel_rfl) (fun _ _ _ h => h) (Or.inl ⟨by rfl, ?_⟩) (by assumption) ?_; rotate_left 1; (focus (intro w hSw; (try dsimp only at hSw); go_simp <;> try (first | (with_reducible rfl) | (rw [if_neg (by omega)])))); try simp only [Act.put, List.setIfInBounds_toArray, List.set_cons_zero, List.set_cons_succ]); (refine wpAnyH_take (i := 12) (oi := ⟨some 28, _, _, _, _, _⟩) (v := ?_) rfl (by kernel_rfl) (by kernel_rfl) (by kernel_rfl) (fun _ _ _ h => h) (Or.inl ⟨by rfl, ?_⟩) (by assumption) ?_; rotate_left 1; (focus (intro w hSw; (try dsimp only at hSw); go_simp <;> try (first | (with_reducible rfl) | (rw [if_neg (by omega)])))); try simp only [Act.put, List.setIfInBounds_toArray, List.set_cons_zero, List.set_cons_succ]))
        refine wpAnyH_ready (rs := [13]) (by kernel_rfl) (by simp) ?_
        refine AllReadyH.cons (o := ⟨some 29, _, _, _, _, _⟩) rfl (fun K hK => ?_) AllReadyH.nil
        go_simp
        refine (spec_size _ _ (by omega) (by omega)).mono ?_
        rintro e1 W1 ⟨rfl, rfl⟩
        have hH2 := hHeld
        clear hHeld
        (refine hK.out _ _ ?_ (fun hHeld => ?_))
        · exact hH2
        refine wpAnyH_ready (rs := [14]) (by kernel_rfl) (by simp) ?_
        refine AllReadyH.cons (o := ⟨some 30, _, _, _, _, _⟩) rfl (fun K hK => ?_) AllReadyH.nil
        go_simp
        clear hHeld
        (refine hK.out _ _ ?_ (fun hHeld => ?_))
        · exact ⟨((AL _).cell (p := ⟨ab, _, none⟩) hab).trans p1, ((AL _).cell (p := ⟨ab, _, none⟩) hab).trans q1⟩
        try simp only [Act.put, List.setIfInBounds_toArray, List.set_cons_zero, List.set_cons_succ]
        refine wpAnyH_ready (rs := [15]) (by kernel_rfl) (by simp) ?_
        refine AllReadyH.cons (o := ⟨some 31, _, _, _, _, _⟩) rfl (fun K hK => ?_) AllReadyH.nil
        refine wpApp_own1x (.tmp 16) (.tmp 30) rfl wr.drew _ (by rfl) _ _ _ _ _ rfl (show World.ownsRow wr.drew _ _ _ _ _ _ from hown) rfl (by omega) (by exact hz) ?_
        intro v1 w1 hown1 hb1 hz1
        have HOWN := Lib.hid hown1
        have hb2 : Below w.heap.size wr w1 := below_drew2 hb1
        have hz2 : wr.heap.size ≤ w1.heap.size := hz1
        clear hown1 hb1 hz1
        clear hHeld
        (refine hK.out _ _ ?_ (fun hHeld => ?_))
        · exact ⟨(hb2.cell (p := ⟨ab, _, none⟩) hbB).trans p1, (hb2.cell (p := ⟨ab, _, none⟩) hbB).trans q1⟩
        ((refine wpAnyH_take (i := 16) (oi := ⟨some 4, _, _, _, _, _⟩) (v := ?_) rfl (by kernel_rfl) (by kernel_rfl) (by kernel_rfl) (fun _ _ _ h => h) (Or.inl ⟨by rfl, ?_⟩) (by assumption) ?_; rotate_left 1; (focus (intro w hSw; (try dsimp only at hSw); go_simp <;> try (first | (with_reducible rfl) | (rw [if_neg (by omega)])))); try simp only [Act.put, List.setIfInBounds_toArray, List.set_cons_zero, List.set_cons_succ]))
        refine wpAnyH_done (by kernel_rfl) ?_ _
        go_wp2
        go_roundw
        case rel => exact ⟨p + 1, by omega, by omega, by go_num, hb.trans hb2, by omega, by have h3 := HOWN.out; rw [HS.out] at h3; rw [HKL.out]; rw [HKL.out] at h3; exact h3⟩
        case measure => simp [intOf]; omega
      · obtain rfl : p = la0 := by omega
        obtain ⟨B, d, rfl, hw⟩ := own_wr hown
        go_wp2
        go_ret2
        exact ⟨B, d, rfl, hb, hw⟩
  · have e0 : r0_RangesOf xa0 = [] := by unfold r0_RangesOf; rw [hln, if_neg h]
    have e1 : r1_RangesOf xa0 = 1 := by unfold r1_RangesOf; rw [hln]; exact tcode_bad h
    rw [e0, e1]
    have HV := Lib.hid h
    clear e0 e1 h
    go_enter Try.func27, Try.ntmps27
    go_wp2_with (first | (go_at_call 38; refine (l08Ok_any _ _ _ xa0 _ ha0 RA.out false ⟨fun h => by simp at h, fun h => absurd h HV.out⟩).mono ?_; rintro eo W0 ⟨rfl, b0⟩))
    go_ret2
    exact ⟨none, 0, rfl, b0, rfl, fun h => absurd h (by simp)⟩

set_option maxRecDepth 100000 in
set_option maxHeartbeats 3200000 in
theorem implC_RangesOf (a0 : Option Addr) (la0 ca0 : Nat) (xa0 : List RTide) (w : World) (ha0 : la0 ≤ 1048576) (ra0 : Rd_Tide w w.heap.size a0 la0 xa0) (fa0 : Wf_Tide xa0) (ka0 : la0 ≤ ca0) :
    Calls Try.prog 28 #[.slice a0 la0 ca0] w fun e w' => ∃ B0 dB0, e = .returned (.tuple #[.slice B0 (r0_RangesOf xa0).length dB0, .int .i64 (r1_RangesOf xa0)]) ∧ Below w.heap.size w w' ∧ Wr w' w.heap.size B0 (r0_RangesOf xa0).length (r0_RangesOf xa0) := by
  have hln := ra0.len
  have RA := Lib.hid ra0
  clear ra0 fa0
  by_cases h : TdOk la0 xa0
  · have e0 : r0_RangesOf xa0 = rgN xa0 (la0 - 1) := by unfold r0_RangesOf; rw [hln, if_pos h]
    have e1 : r1_RangesOf xa0 = 0 := by unfold r1_RangesOf; rw [hln]; exact tcode_ok h trivial
    rw [e0, e1, rgN_len]
    have HC := Lib.hid (tcode_ok (P := True) h trivial)
    have HV := Lib.hid h
    have h2 := h.2.1
    have h40 := h.2.2
    clear e0 e1 h
    go_enter Try.func28, Try.ntmps28
    go_wp2_with (first | (go_at_call 51; refine (tidesCode_t _ _ _ xa0 _ True _ ha0 ka0 RA.out (fun _ => rfl) _ HC.out).mono ?_; rintro ed W2 ⟨rfl, b2⟩; have s2 := b2.size) | (go_at_call 56; refine (flanks_t _ _ _ xa0 _ (by omega) ha0 (RA.out.below' b2)).mono ?_; rintro e1 W3 ⟨FB, fd, rfl, b3, hw⟩; have HW := Lib.hid hw.rd; clear hw; have s3 := b3.size; have d3 : Below w.heap.size w W3 := b2.trans (b3.mono s2)))
    obtain ⟨N, hN⟩ : ∃ N, N = la0 - 1 := ⟨_, rfl⟩
    have HNN := Lib.hid hN
    rw [← hN] at HW ⊢
    have hN1 : 1 ≤ N := by omega
    have hN40 : N ≤ 40 := by omega
    clear hN
    go_loopw [5, 7, 8, 9, 18] (fun v _ _ _ i wr => ∃ k : Nat, k ≤ N ∧ i = .int .i64 (k : Int) ∧ Below W3.heap.size W3 wr ∧ W3.heap.size ≤ wr.heap.size ∧ wr.ownsRow W3.heap.size 2 1 v k ((rgN xa0 k).map (Value.int .i64))) (fun _ _ _ _ i _ => N - (intOf i).toNat)
    case atStart => exact ⟨0, by omega, rfl, Below.refl _ _, by omega, World.ownsRow_nil _ _ _ _⟩
    case round =>
      obtain ⟨k, hk, rfl, hb, hz, hown⟩ := hrel
      have hsz := hb.size
      by_cases hlt : k < N
      · obtain ⟨fb, fo, rfl, hfb, hc⟩ := (HW.out.below hb).fl (by omega)
        obtain ⟨p0, p1, p2, p3⟩ := hc k hlt
        have hl0 := HV.out.l (k := k) (by have := HNN.out; omega)
        have hl1 := HV.out.l (k := k + 1) (by have := HNN.out; omega)
        have HS := Lib.hid (show (rgN xa0 k) ++ [((tL xa0 (k + 1) - tL xa0 k).natAbs : Int)] = rgN xa0 (k + 1) from rfl)
        clear hc
        generalize tM xa0 k = x0 at *
        generalize tL xa0 k = x1 at *
        generalize tM xa0 (k + 1) = x2 at *
        generalize tL xa0 (k + 1) = x3 at *
        generalize rgN xa0 k = L at *
        have f1 := IntWalk.i64_in (x3 - x1) (by omega)
        have f2 := IntWalk.i64_in (x1 - x3) (by omega)
        have hown2 := owns_below hown ((Below.refl wr.heap.size wr).alloc (Nat.le_refl _) (.cells #[.int .i64 x0, .int .i64 x1, .int .i64 x2, .int .i64 x3] 70))
        by_cases hu : x1 ≤ x3
        · have HS := Lib.hid (show L ++ [x3 - x1] = rgN xa0 (k + 1) by rw [← HS.out]; congr 2; omega)
          go_wp2_with (first | (go_at_call 57; refine (ends_up x0 x1 x2 x3 _ hu).mono ?_; rintro e4 W4 ⟨rfl, b4⟩; have s4 : wr.heap.size < W4.heap.size := (by have := b4.size; (try simp at this); omega); have hown4 := owns_below hown2 b4; have d4 : Below wr.heap.size wr W4 := (by repeat (first | assumption | exact Below.refl _ _ | (refine Below.trans ?_ (b4.mono (by first | omega | (simp; done) | (simp; omega)))) | (refine Below.setCell ?_ (by first | omega | (simp; done) | (simp; omega)) _) | apply below_drewN | apply Below.drew | (refine Below.alloc ?_ (by first | omega | (simp; done) | (simp; omega)) _))); have hown5 := fun (o1 o2 : Obj) => (hown4.alloc o1).alloc o2) | (at_builtin; refine wpl_app1x rfl _ _ rfl _ _ (by first | rfl | (simp; done)) _ _ _ _ _ rfl (by exact hown5 _ _) rfl (by omega) (by first | omega | (simp; omega)) ?_; intro v1 w1 hown1 hb1 hz1))
          go_roundw
          case rel => exact ⟨k + 1, by omega, by go_num, hb.trans ((d4.mono hsz).trans ((((Below.refl W3.heap.size W4).alloc (by omega) _).alloc (by simp; omega) _).trans hb1)), by simp at hz1; omega, by rw [← HS.out]; exact hown1⟩
          case measure => simp [intOf]; omega
        · have HS := Lib.hid (show L ++ [x1 - x3] = rgN xa0 (k + 1) by rw [← HS.out]; congr 2; omega)
          go_wp2_with (first | (go_at_call 57; refine (ends_dn x0 x1 x2 x3 _ hu).mono ?_; rintro e4 W4 ⟨rfl, b4⟩; have s4 : wr.heap.size < W4.heap.size := (by have := b4.size; (try simp at this); omega); have hown4 := owns_below hown2 b4; have d4 : Below wr.heap.size wr W4 := (by repeat (first | assumption | exact Below.refl _ _ | (refine Below.trans ?_ (b4.mono (by first | omega | (simp; done) | (simp; omega)))) | (refine Below.setCell ?_ (by first | omega | (simp; done) | (simp; omega)) _) | apply below_drewN | apply Below.drew | (refine Below.alloc ?_ (by first | omega | (simp; done) | (simp; omega)) _))); have hown5 := fun (o1 o2 : Obj) => (hown4.alloc o1).alloc o2) | (at_builtin; refine wpl_app1x rfl _ _ rfl _ _ (by first | rfl | (simp; done)) _ _ _ _ _ rfl (by exact hown5 _ _) rfl (by omega) (by first | omega | (simp; omega)) ?_; intro v1 w1 hown1 hb1 hz1))
          go_roundw
          case rel => exact ⟨k + 1, by omega, by go_num, hb.trans ((d4.mono hsz).trans ((((Below.refl W3.heap.size W4).alloc (by omega) _).alloc (by simp; omega) _).trans hb1)), by simp at hz1; omega, by rw [← HS.out]; exact hown1⟩
          case measure => simp [intOf]; omega
      · have ek : k = la0 - 1 := by have := HNN.out; omega
        obtain ⟨B, d, rfl, hw⟩ := own_wr hown
        have g9 : ¬ (k : Int) < (N : Int) := by omega
        have HWL := Lib.hid (hw.lower (show w.heap.size ≤ W3.heap.size by omega))
        clear hw
        have EK := Lib.hid ek
        clear ek
        go_wp2
        go_ret2
        have e := EK.out
        subst e
        first | exact ⟨B, ⟨d, rfl⟩, d3.trans (hb.mono (by omega)), HWL.out⟩ | exact ⟨B, d, rfl, d3.trans (hb.mono (by omega)), HWL.out⟩
  · have e0 : r0_RangesOf xa0 = [] := by unfold r0_RangesOf; rw [hln, if_neg h]
    have e1 : r1_RangesOf xa0 = 1 := by unfold r1_RangesOf; rw [hln]; exact tcode_bad h
    rw [e0, e1]
    have HC := Lib.hid (tcode_bad (P := True) h)
    clear e0 e1 h
    go_enter Try.func28, Try.ntmps28
    go_wp2_with (first | (go_at_call 51; refine (tidesCode_t _ _ _ xa0 _ True _ ha0 ka0 RA.out (fun _ => rfl) _ HC.out).mono ?_; rintro ed W2 ⟨rfl, b2⟩; have s2 := b2.size))
    go_ret2
    exact ⟨none, 0, rfl, b2, rfl, fun h => absurd h (by simp)⟩

end Go.Proofs.Ythpnkkbinffmkaa
