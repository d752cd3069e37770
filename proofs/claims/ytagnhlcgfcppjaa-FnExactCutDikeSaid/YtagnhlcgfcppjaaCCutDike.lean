import Derived.Test.YtagnhlcgfcppjaaCutQ
import Derived.Test.YtagnhlcgfcppjaaPlaceW
import Derived.StillTailTactics
namespace Go.Proofs.Ytagnhlcgfcppjaa
open Go.RowKit

def cutP (xs : List RSection) (m : Int) : Prop := 1 ≤ m ∧ m ≤ lenN xs xs.length - 1
instance (xs : List RSection) (m : Int) : Decidable (cutP xs m) := by unfold cutP; exact inferInstance
def r0_CutDike (xa0 : List RSection) (a1 : Int) : List RSection := if DkOk xa0.length xa0 ∧ cutP xa0 a1 then cutA xa0 a1 xa0.length else []
def r1_CutDike (xa0 : List RSection) (a1 : Int) : List RSection := if DkOk xa0.length xa0 ∧ cutP xa0 a1 then cutB xa0 a1 xa0.length else []
def r2_CutDike (xa0 : List RSection) (a1 : Int) : Int := dcode xa0.length xa0 (cutP xa0 a1)
theorem len_r0_CutDike (xa0 : List RSection) (a1 : Int) : (r0_CutDike xa0 a1).length ≤ 1048576 := by
  unfold r0_CutDike
  split
  · rename_i h
    have := h.1.2.2
    have := cutA_len xa0 a1 xa0.length
    omega
  · simp
theorem len_r1_CutDike (xa0 : List RSection) (a1 : Int) : (r1_CutDike xa0 a1).length ≤ 1048576 := by
  unfold r1_CutDike
  split
  · rename_i h
    have := h.1.2.2
    have := cutB_len xa0 a1 xa0.length
    omega
  · simp
theorem own_drewQ {w : World} {base size n : Nat} {e : TypeId} {v : Value} {xs : List Value} (h : w.ownsRow base e size v n xs) : w.drew.ownsRow base e size v n xs := h
theorem minD_e (a b c : Int) (w : World) (h : c = min a b) : Calls Try.prog 73 #[.int .i64 a, .int .i64 b] w fun e w' => e = .returned (.int .i64 c) ∧ w = w' := by
  by_cases g : a < b
  · go_enter Try.func73, Try.ntmps73
    go_wp2
    go_ret
    exact ⟨ret_int (by omega), rfl⟩
  · go_enter Try.func73, Try.ntmps73
    go_wp2
    go_ret
    exact ⟨ret_int (by omega), rfl⟩

set_option maxRecDepth 100000 in
set_option maxHeartbeats 1600000 in
theorem specC_CutDike (a0 : Option Addr) (la0 ca0 : Nat) (xa0 : List RSection) (a1 : Int) (w : World) (ha0 : la0 ≤ 1048576) (ra0 : Rd_Section w w.heap.size a0 la0 xa0) (fa0 : Wf_Section xa0) (ha1 : (Lit.int .i64 a1).wf = true) (ka0 : la0 ≤ ca0) :
    Calls Try.prog 41 #[.slice a0 la0 ca0, .int .i64 a1] w fun e w' => ∃ B0 B1 dB0 dB1, e = .returned (.tuple #[.slice B0 (r0_CutDike xa0 a1).length dB0, .slice B1 (r1_CutDike xa0 a1).length dB1, .int .i64 (r2_CutDike xa0 a1)]) ∧ Below w.heap.size w w' ∧ Wr_Section w' w.heap.size B0 (r0_CutDike xa0 a1).length (r0_CutDike xa0 a1) ∧ Wr_Section w' w.heap.size B1 (r1_CutDike xa0 a1).length (r1_CutDike xa0 a1) ∧ Dis B0 (r0_CutDike xa0 a1).length B1 (r1_CutDike xa0 a1).length := by
  have hln := ra0.len
  have RA := Lib.hid ra0
  clear ra0
  clear fa0 ka0
  by_cases h : DkOk la0 xa0 ∧ cutP xa0 a1
  · have e0 : r0_CutDike xa0 a1 = cutA xa0 a1 la0 := by unfold r0_CutDike; rw [hln, if_pos h]
    have e1 : r1_CutDike xa0 a1 = cutB xa0 a1 la0 := by unfold r1_CutDike; rw [hln, if_pos h]
    have e2 : r2_CutDike xa0 a1 = 0 := by unfold r2_CutDike; rw [hln]; exact dcode_ok h.1 h.2
    rw [e0, e1, e2]
    have HV := Lib.hid h.1
    have h30 := h.1.2.2
    have h1 := h.1.2.1
    obtain ⟨h2, h3⟩ := h.2
    rw [hln] at h3
    obtain ⟨g1, g2⟩ := lenN_bd h.1 la0 (Nat.le_refl _)
    obtain ⟨M, hM⟩ : ∃ M, M = lenN xa0 la0 := ⟨_, rfl⟩
    rw [← hM] at h3 g1 g2
    have HN := Lib.hid hM.symm
    obtain ⟨ab, o, rfl, hbB0, hc⟩ := RA.out.at (by omega)
    clear e0 e1 e2 h hM hc
    go_enter Try.func41, Try.ntmps41
    go_wp2_with (first | (go_at_call 50; refine (l07Ok_any _ _ _ xa0 _ ha0 RA.out true ⟨fun _ => HV.out, fun _ => rfl⟩).mono ?_; rintro eo wo ⟨rfl, rfl⟩) | (go_at_call 56; refine (lengthS_t _ _ _ xa0 _ ha0 RA.out HV.out).mono ?_; rintro e3 w3 ⟨rfl, rfl⟩; rw [HN.out]) | (go_at_call 59; first | (refine (in_t _ _ _ _ (by omega)).mono ?_; rintro e w' ⟨rfl, rfl⟩) | (refine (in_f _ _ _ _ (by omega)).mono ?_; rintro e w' ⟨rfl, rfl⟩)))
    go_loopw [7, 8, 9, 10, 11] (fun v7 v8 lf i _ wr => ∃ k : Nat, k ≤ la0 ∧ i = .int .i64 (k : Int) ∧ lf = .int .i64 (max 0 (a1 - lenN xa0 k)) ∧ Below w.heap.size w wr ∧ w.heap.size ≤ wr.heap.size ∧ wr.ownsRow w.heap.size 58 2 v7 (cutA xa0 a1 k).length (csSection (cutA xa0 a1 k)) ∧ wr.ownsRow w.heap.size 58 2 v8 (cutB xa0 a1 k).length (csSection (cutB xa0 a1 k)) ∧ Apart v7 v8) (fun _ _ _ i _ _ => la0 - (intOf i).toNat)
    case atStart => exact ⟨0, by omega, rfl, by simp only [lenN]; rw [show max 0 (a1 - 0) = a1 by omega], (by repeat (first | assumption | exact Below.refl _ _ | (refine Below.setCell ?_ (by first | omega | (simp; done) | (simp; omega)) _) | apply below_drewN | apply Below.drew | (refine Below.alloc ?_ (by first | omega | (simp; done) | (simp; omega)) _))), by simp; omega, owns_below (ownsR_made rfl (Nat.le_refl _)) ((Below.refl _ _).alloc (Nat.le_refl _) _), ownsR_made (by simp) (by omega), fun g e1 e2 => by simp [Value.ownBlock] at e1 e2; omega⟩
    case round =>
      obtain ⟨k, hk, rfl, rfl, hb, hz, hown7, hown8, hap⟩ := hrel
      by_cases hlt : k < la0
      · obtain ⟨p, hbB⟩ := (RA.out.below hb).at' (k := k) hlt
        have hd := HV.out.1 k hlt
        have HS := Lib.hid (show lenN xa0 (k + 1) = lenN xa0 k + (xa0.getD k zSection).f0 from rfl)
        have HT0 : tkN xa0 a1 k = min (max 0 (a1 - lenN xa0 k)) (xa0.getD k zSection).f0 := rfl
        have HA0 : cutA xa0 a1 (k + 1) = cutA xa0 a1 k ++ if 0 < tkN xa0 a1 k then [⟨tkN xa0 a1 k, (xa0.getD k zSection).f1⟩] else [] := rfl
        have HB0 : cutB xa0 a1 (k + 1) = cutB xa0 a1 k ++ if tkN xa0 a1 k < (xa0.getD k zSection).f0 then [⟨(xa0.getD k zSection).f0 - tkN xa0 a1 k, (xa0.getD k zSection).f1⟩] else [] := rfl
        obtain ⟨u1, u2⟩ := lenN_bd HV.out k (by omega)
        have la := cutA_len xa0 a1 k
        have lb := cutB_len xa0 a1 k
        obtain ⟨t, ht⟩ : ∃ t, t = tkN xa0 a1 k := ⟨_, rfl⟩
        rw [← ht] at HT0 HA0 HB0
        obtain ⟨JA, hJA⟩ : ∃ J, J = cutA xa0 a1 k := ⟨_, rfl⟩
        obtain ⟨JB, hJB⟩ : ∃ J, J = cutB xa0 a1 k := ⟨_, rfl⟩
        rw [← hJA] at HA0 hown7 la
        rw [← hJB] at HB0 hown8 lb
        obtain ⟨x, hx⟩ := getZs xa0 k
        rw [← hx] at p hd HS HT0 HA0 HB0
        obtain ⟨s, hs⟩ : ∃ s, s = lenN xa0 k := ⟨_, rfl⟩
        rw [← hs] at HS HT0 u1 u2 ⊢
        clear ht hJA hJB hx hs
        obtain ⟨x0, x1⟩ := x
        obtain ⟨p0, p1⟩ := p
        obtain ⟨d0, d1, _, _⟩ := hd
        have hab0 : ab < wr.heap.size := Nat.lt_of_lt_of_le hbB hz
        simp only at p0 p1 d0 d1 HS HT0 HA0 HB0
        obtain ⟨L, hL⟩ : ∃ L, L = max 0 (a1 - s) := ⟨_, rfl⟩
        rw [← hL] at HT0 ⊢
        have HT := Lib.hid HT0
        have ht1 : 0 ≤ t := by omega
        have ht2 : t ≤ x0 := by omega
        have ht3 : t ≤ L := by omega
        have hL2 : L ≤ 300000 := by omega
        have HL := Lib.hid (show L - t = max 0 (a1 - lenN xa0 (k + 1)) by rw [HS.out]; omega)
        have f9 := IntWalk.i64_in (x0 - t) (by omega)
        clear HT0 hL
        by_cases c1 : 0 < t
        · by_cases c2 : t < x0
          · have EA := Lib.hid (show cutA xa0 a1 (k + 1) = JA ++ [⟨t, x1⟩] by rw [HA0, if_pos c1])
            have EB := Lib.hid (show cutB xa0 a1 (k + 1) = JB ++ [⟨x0 - t, x1⟩] by rw [HB0, if_pos c2])
            clear HA0 HB0
            go_wp2_with (first | (go_at_call 73; refine (minD_e _ _ t _ HT.out).mono ?_; rintro em wm ⟨rfl, rfl⟩) | (at_builtin; refine wplApp2S rfl _ _ rfl _ _ rfl _ _ _ JA t x1 rfl hown7 rfl (by omega) (by exact hz) ?_; intro v1 w1 o7 g7 n7; obtain ⟨so, sap⟩ := two_app hown7 hown8 hap g7 n7; have bw : Below w.heap.size wr w1 := ((Below.refl wr.heap.size wr).alloc (Nat.le_refl _) _ |>.mono hz).trans (below_row (hown7.alloc _) g7 (by simp; omega)); have q0 : w1.cell? ⟨ab, o + k * 2, none⟩ = _ := (bw.cell (p := ⟨ab, o + k * 2, none⟩) hbB).trans p0; have q1 : w1.cell? ⟨ab, o + k * 2 + 1, none⟩ = _ := (bw.cell (p := ⟨ab, o + k * 2 + 1, none⟩) hbB).trans p1; have hz1 : w.heap.size ≤ w1.heap.size := Nat.le_trans hz bw.size; have hab1 : ab < w1.heap.size := Nat.lt_of_lt_of_le hbB hz1))
            refine wp_region_held_drew (S := fun w' => w'.cell? ⟨ab, o + k * 2, none⟩ = some (.int .i64 x0) ∧ w'.cell? ⟨ab, o + k * 2 + 1, none⟩ = some (.int .i64 x1)) (by kernel_rfl) ⟨q0, q1⟩ (fun hHeld => ?_)
            ((refine wpAnyH_take (i := 0) (oi := ⟨some 59, _, _, _, _, _⟩) (v := ?_) rfl (by kernel_rfl) (by kernel_rfl) (by kernel_rfl) (fun _ _ _ h => h) (Or.inl ⟨by rfl, ?_⟩) (by assumption) ?_; rotate_left 1; (focus (intro w hSw; (try dsimp only at hSw); go_simp <;> try (first | (with_reducible rfl) | (rw [if_neg (by omega)])))); try simp only [Act.put, List.setIfInBounds_toArray, List.set_cons_zero, List.set_cons_succ]); (refine wpAnyH_take (i := 1) (oi := ⟨some 60, _, _, _, _, _⟩) (v := ?_) rfl (by kernel_rfl) (by kernel_rfl) (by kernel_rfl) (fun _ _ _ h => h) (Or.inl ⟨by rfl, ?_⟩) (by assumption) ?_; rotate_left 1; (focus (intro w hSw; (try dsimp only at hSw); go_simp <;> try (first | (with_reducible rfl) | (rw [if_neg (by omega)])))); try simp only [Act.put, List.setIfInBounds_toArray, List.set_cons_zero, List.set_cons_succ]); (refine wpAnyH_take (i := 2) (oi := ⟨some 61, _, _, _, _, _⟩) (v := ?_) rfl (by kernel_rfl) (by kernel_rfl) (by kernel_rfl) (fun _ _ _ h => h) (Or.inl ⟨by rfl, ?_⟩) (by assumption) ?_; rotate_left 1; (focus (intro w hSw; (try dsimp only at hSw); go_simp <;> try (first | (with_reducible rfl) | (rw [if_neg (by omega)])))); try simp only [Act.put, List.setIfInBounds_toArray, List.set_cons_zero, List.set_cons_succ]); (refine wpAnyH_take (i := 3) (oi := ⟨some 62, _, _, _, _, _⟩) (v := ?_) rfl (by kernel_rfl) (by kernel_rfl) (by kernel_rfl) (fun _ _ _ h => h) (Or.inl ⟨by rfl, ?_⟩) (by assumption) ?_; rotate_left 1; (focus (intro w hSw; (try dsimp only at hSw); go_simp <;> try (first | (with_reducible rfl) | (rw [if_neg (by omega)])))); try simp only [Act.put, List.setIfInBounds_toArray, List.set_cons_zero, List.set_cons_succ]); (refine wpAnyH_take (i := 4) (oi := ⟨some 63, _, _, _, _, _⟩) (v := ?_) rfl (by kernel_rfl) (by kernel_rfl) (by kernel_rfl) (fun _ _ _ h => h) (Or.inl ⟨by rfl, ?_⟩) (by assumption) ?_; rotate_left 1; (focus (intro w hSw; (try dsimp only at hSw); go_simp <;> try (first | (with_reducible rfl) | (rw [if_neg (by omega)])))); try simp only [Act.put, List.setIfInBounds_toArray, List.set_cons_zero, List.set_cons_succ]); (refine wpAnyH_take (i := 5) (oi := ⟨some 64, _, _, _, _, _⟩) (v := ?_) rfl (by kernel_rfl) (by kernel_rfl) (by kernel_rfl) (fun _ _ _ h => h) (Or.inl ⟨by rfl, ?_⟩) (by assumption) ?_; rotate_left 1; (focus (intro w hSw; (try dsimp only at hSw); go_simp <;> try (first | (with_reducible rfl) | (rw [if_neg (by omega)])))); try simp only [Act.put, List.setIfInBounds_toArray, List.set_cons_zero, List.set_cons_succ]); (refine wpAnyH_take (i := 6) (oi := ⟨some 65, _, _, _, _, _⟩) (v := ?_) rfl (by kernel_rfl) (by kernel_rfl) (by kernel_rfl) (fun _ _ _ h => h) (Or.inl ⟨by rfl, ?_⟩) (by assumption) ?_; rotate_left 1; (focus (intro w hSw; (try dsimp only at hSw); go_simp <;> try (first | (with_reducible rfl) | (rw [if_neg (by omega)])))); try simp only [Act.put, List.setIfInBounds_toArray, List.set_cons_zero, List.set_cons_succ]); (refine wpAnyH_take (i := 7) (oi := ⟨some 66, _, _, _, _, _⟩) (v := ?_) rfl (by kernel_rfl) (by kernel_rfl) (by kernel_rfl) (fun _ _ _ h => h) (Or.inl ⟨by rfl, ?_⟩) (by assumption) ?_; rotate_left 1; (focus (intro w hSw; (try dsimp only at hSw); go_simp <;> try (first | (with_reducible rfl) | (rw [if_neg (by omega)])))); try simp only [Act.put, List.setIfInBounds_toArray, List.set_cons_zero, List.set_cons_succ]); (refine wpAnyH_take (i := 8) (oi := ⟨some 67, _, _, _, _, _⟩) (v := ?_) rfl (by kernel_rfl) (by kernel_rfl) (by kernel_rfl) (fun _ _ _ h => h) (Or.inl ⟨by rfl, ?_⟩) (by assumption) ?_; rotate_left 1; (focus (intro w hSw; (try dsimp only at hSw); go_simp <;> try (first | (with_reducible rfl) | (rw [if_neg (by omega)])))); try simp only [Act.put, List.setIfInBounds_toArray, List.set_cons_zero, List.set_cons_succ]); (refine wpAnyH_take (i := 9) (oi := ⟨some 68, _, _, _, _, _⟩) (v := ?_) rfl (by kernel_rfl) (by kernel_rfl) (by kernel_rfl) (fun _ _ _ h => h) (Or.inl ⟨by rfl, ?_⟩) (by assumption) ?_; rotate_left 1; (focus (intro w hSw; (try dsimp only at hSw); go_simp <;> try (first | (with_reducible rfl) | (rw [if_neg (by omega)])))); try simp only [Act.put, List.setIfInBounds_toArray, List.set_cons_zero, List.set_cons_succ]); (refine wpAnyH_take (i := 10) (oi := ⟨some 69, _, _, _, _, _⟩) (v := ?_) rfl (by kernel_rfl) (by kernel_rfl) (by kernel_rfl) (fun _ _ _ h => h) (Or.inl ⟨by rfl, ?_⟩) (by assumption) ?_; rotate_left 1; (focus (intro w hSw; (try dsimp only at hSw); go_simp <;> try (first | (with_reducible rfl) | (rw [if_neg (by omega)])))); try simp only [Act.put, List.setIfInBounds_toArray, List.set_cons_zero, List.set_cons_succ]); (refine wpAnyH_take (i := 11) (oi := ⟨some 70, _, _, _, _, _⟩) (v := ?_) rfl (by kernel_rfl) (by kernel_rfl) (by kernel_rfl) (fun _ _ _ h => h) (Or.inl ⟨by rfl, ?_⟩) (by assumption) ?_; rotate_left 1; (focus (intro w hSw; (try dsimp only at hSw); go_simp <;> try (first | (with_reducible rfl) | (rw [if_neg (by omega)])))); try simp only [Act.put, List.setIfInBounds_toArray, List.set_cons_zero, List.set_cons_succ]); (refine wpAnyH_take (i := 12) (oi := ⟨some 71, _, _, _, _, _⟩) (v := ?_) rfl (by kernel_rfl) (by kernel_rfl) (by kernel_rfl) (fun _ _ _ h => h) (Or.inl ⟨by rfl, ?_⟩) (by assumption) ?_; rotate_left 1; (focus (intro w hSw; (try dsimp only at hSw); go_simp <;> try (first | (with_reducible rfl) | (rw [if_neg (by omega)])))); try simp only [Act.put, List.setIfInBounds_toArray, List.set_cons_zero, List.set_cons_succ]); (refine wpAnyH_take (i := 13) (oi := ⟨some 72, _, _, _, _, _⟩) (v := ?_) rfl (by kernel_rfl) (by kernel_rfl) (by kernel_rfl) (fun _ _ _ h => h) (Or.inl ⟨by rfl, ?_⟩) (by assumption) ?_; rotate_left 1; (focus (intro w hSw; (try dsimp only at hSw); go_simp <;> try (first | (with_reducible rfl) | (rw [if_neg (by omega)])))); try simp only [Act.put, List.setIfInBounds_toArray, List.set_cons_zero, List.set_cons_succ]))
            refine wpAnyH_ready (rs := [14]) (by kernel_rfl) (by simp) ?_
            refine AllReadyH.cons (o := ⟨some 73, _, _, _, _, _⟩) rfl (fun K hK => ?_) AllReadyH.nil
            go_simp
            clear hHeld
            (refine hK.out _ _ ?_ (fun hHeld => ?_))
            · exact ⟨(((Below.refl w1.heap.size w1).alloc (Nat.le_refl _) _).cell (p := ⟨ab, o + k * 2, none⟩) hab1).trans q0, (((Below.refl w1.heap.size w1).alloc (Nat.le_refl _) _).cell (p := ⟨ab, o + k * 2 + 1, none⟩) hab1).trans q1⟩
            try simp only [Act.put, List.setIfInBounds_toArray, List.set_cons_zero, List.set_cons_succ]
            refine wpAnyH_ready (rs := [15]) (by kernel_rfl) (by simp) ?_
            refine AllReadyH.cons (o := ⟨some 74, _, _, _, _, _⟩) rfl (fun K hK => ?_) AllReadyH.nil
            rw [if_pos (by rfl)]
            refine wpApp2S (.tmp 59) (.tmp 73) rfl w1.drew _ rfl _ _ _ JB (x0 - t) x1 rfl (own_drewQ so) rfl (by omega) (by exact hz1) ?_
            intro v2 w2 o8 g8 n8
            have bw2 : Below w.heap.size w1 w2 := ((Below.refl w1.heap.size w1).drew.alloc (Nat.le_refl _) _ |>.mono hz1).trans (below_row (World.ownsRow.alloc (w := w1.drew) so _) g8 (by simp; omega))
            clear hHeld
            (refine hK.out _ _ ?_ (fun hHeld => ?_))
            · exact ⟨(bw2.cell (p := ⟨ab, o + k * 2, none⟩) hbB).trans q0, (bw2.cell (p := ⟨ab, o + k * 2 + 1, none⟩) hbB).trans q1⟩
            ((refine wpAnyH_take (i := 16) (oi := ⟨some 8, _, _, _, _, _⟩) (v := ?_) rfl (by kernel_rfl) (by kernel_rfl) (by kernel_rfl) (fun _ _ _ h => h) (Or.inl ⟨by rfl, ?_⟩) (by assumption) ?_; rotate_left 1; (focus (intro w hSw; (try dsimp only at hSw); go_simp <;> try (first | (with_reducible rfl) | (rw [if_neg (by omega)])))); try simp only [Act.put, List.setIfInBounds_toArray, List.set_cons_zero, List.set_cons_succ]))
            refine wpAnyH_done (by kernel_rfl) ?_ _
            go_wp2
            obtain ⟨so2, sap2⟩ := two_app (W := w1.drew) so o7 sap.symm g8 n8
            go_roundw
            case rel => exact ⟨k + 1, by omega, by go_num, by rw [HL.out], hb.trans (bw.trans bw2), Nat.le_trans hz1 bw2.size, by rw [EA.out, List.length_append]; exact so2, by rw [EB.out, List.length_append]; exact o8, sap2.symm⟩
            case measure => simp [intOf]; omega
          · have EA := Lib.hid (show cutA xa0 a1 (k + 1) = JA ++ [⟨t, x1⟩] by rw [HA0, if_pos c1])
            have EB := Lib.hid (show cutB xa0 a1 (k + 1) = JB by rw [HB0, if_neg c2, List.append_nil])
            clear HA0 HB0
            go_wp2_with (first | (go_at_call 73; refine (minD_e _ _ t _ HT.out).mono ?_; rintro em wm ⟨rfl, rfl⟩) | (at_builtin; refine wplApp2S rfl _ _ rfl _ _ rfl _ _ _ JA t x1 rfl hown7 rfl (by omega) (by exact hz) ?_; intro v1 w1 o7 g7 n7; obtain ⟨so, sap⟩ := two_app hown7 hown8 hap g7 n7; have bw : Below w.heap.size wr w1 := ((Below.refl wr.heap.size wr).alloc (Nat.le_refl _) _ |>.mono hz).trans (below_row (hown7.alloc _) g7 (by simp; omega)); have q0 : w1.cell? ⟨ab, o + k * 2, none⟩ = _ := (bw.cell (p := ⟨ab, o + k * 2, none⟩) hbB).trans p0; have q1 : w1.cell? ⟨ab, o + k * 2 + 1, none⟩ = _ := (bw.cell (p := ⟨ab, o + k * 2 + 1, none⟩) hbB).trans p1; have hz1 : w.heap.size ≤ w1.heap.size := Nat.le_trans hz bw.size; have hab1 : ab < w1.heap.size := Nat.lt_of_lt_of_le hbB hz1))
            go_roundw
            case rel => exact ⟨k + 1, by omega, by go_num, by rw [HL.out], hb.trans bw, hz1, by rw [EA.out, List.length_append]; exact o7, by rw [EB.out]; exact so, sap⟩
            case measure => simp [intOf]; omega
        · have c2 : t < x0 := by omega
          have EA := Lib.hid (show cutA xa0 a1 (k + 1) = JA by rw [HA0, if_neg c1, List.append_nil])
          have EB := Lib.hid (show cutB xa0 a1 (k + 1) = JB ++ [⟨x0 - t, x1⟩] by rw [HB0, if_pos c2])
          clear HA0 HB0
          go_wp2_with (first | (go_at_call 73; refine (minD_e _ _ t _ HT.out).mono ?_; rintro em wm ⟨rfl, rfl⟩))
          refine wp_region_held_drew (S := fun w' => w'.cell? ⟨ab, o + k * 2, none⟩ = some (.int .i64 x0) ∧ w'.cell? ⟨ab, o + k * 2 + 1, none⟩ = some (.int .i64 x1)) (by kernel_rfl) ⟨p0, p1⟩ (fun hHeld => ?_)
          ((refine wpAnyH_take (i := 0) (oi := ⟨some 59, _, _, _, _, _⟩) (v := ?_) rfl (by kernel_rfl) (by kernel_rfl) (by kernel_rfl) (fun _ _ _ h => h) (Or.inl ⟨by rfl, ?_⟩) (by assumption) ?_; rotate_left 1; (focus (intro w hSw; (try dsimp only at hSw); go_simp <;> try (first | (with_reducible rfl) | (rw [if_neg (by omega)])))); try simp only [Act.put, List.setIfInBounds_toArray, List.set_cons_zero, List.set_cons_succ]); (refine wpAnyH_take (i := 1) (oi := ⟨some 60, _, _, _, _, _⟩) (v := ?_) rfl (by kernel_rfl) (by kernel_rfl) (by kernel_rfl) (fun _ _ _ h => h) (Or.inl ⟨by rfl, ?_⟩) (by assumption) ?_; rotate_left 1; (focus (intro w hSw; (try dsimp only at hSw); go_simp <;> try (first | (with_reducible rfl) | (rw [if_neg (by omega)])))); try simp only [Act.put, List.setIfInBounds_toArray, List.set_cons_zero, List.set_cons_succ]); (refine wpAnyH_take (i := 2) (oi := ⟨some 61, _, _, _, _, _⟩) (v := ?_) rfl (by kernel_rfl) (by kernel_rfl) (by kernel_rfl) (fun _ _ _ h => h) (Or.inl ⟨by rfl, ?_⟩) (by assumption) ?_; rotate_left 1; (focus (intro w hSw; (try dsimp only at hSw); go_simp <;> try (first | (with_reducible rfl) | (rw [if_neg (by omega)])))); try simp only [Act.put, List.setIfInBounds_toArray, List.set_cons_zero, List.set_cons_succ]); (refine wpAnyH_take (i := 3) (oi := ⟨some 62, _, _, _, _, _⟩) (v := ?_) rfl (by kernel_rfl) (by kernel_rfl) (by kernel_rfl) (fun _ _ _ h => h) (Or.inl ⟨by rfl, ?_⟩) (by assumption) ?_; rotate_left 1; (focus (intro w hSw; (try dsimp only at hSw); go_simp <;> try (first | (with_reducible rfl) | (rw [if_neg (by omega)])))); try simp only [Act.put, List.setIfInBounds_toArray, List.set_cons_zero, List.set_cons_succ]); (refine wpAnyH_take (i := 4) (oi := ⟨some 63, _, _, _, _, _⟩) (v := ?_) rfl (by kernel_rfl) (by kernel_rfl) (by kernel_rfl) (fun _ _ _ h => h) (Or.inl ⟨by rfl, ?_⟩) (by assumption) ?_; rotate_left 1; (focus (intro w hSw; (try dsimp only at hSw); go_simp <;> try (first | (with_reducible rfl) | (rw [if_neg (by omega)])))); try simp only [Act.put, List.setIfInBounds_toArray, List.set_cons_zero, List.set_cons_succ]); (refine wpAnyH_take (i := 5) (oi := ⟨some 64, _, _, _, _, _⟩) (v := ?_) rfl (by kernel_rfl) (by kernel_rfl) (by kernel_rfl) (fun _ _ _ h => h) (Or.inl ⟨by rfl, ?_⟩) (by assumption) ?_; rotate_left 1; (focus (intro w hSw; (try dsimp only at hSw); go_simp <;> try (first | (with_reducible rfl) | (rw [if_neg (by omega)])))); try simp only [Act.put, List.setIfInBounds_toArray, List.set_cons_zero, List.set_cons_succ]); (refine wpAnyH_take (i := 6) (oi := ⟨some 65, _, _, _, _, _⟩) (v := ?_) rfl (by kernel_rfl) (by kernel_rfl) (by kernel_rfl) (fun _ _ _ h => h) (Or.inl ⟨by rfl, ?_⟩) (by assumption) ?_; rotate_left 1; (focus (intro w hSw; (try dsimp only at hSw); go_simp <;> try (first | (with_reducible rfl) | (rw [if_neg (by omega)])))); try simp only [Act.put, List.setIfInBounds_toArray, List.set_cons_zero, List.set_cons_succ]); (refine wpAnyH_take (i := 7) (oi := ⟨some 66, _, _, _, _, _⟩) (v := ?_) rfl (by kernel_rfl) (by kernel_rfl) (by kernel_rfl) (fun _ _ _ h => h) (Or.inl ⟨by rfl, ?_⟩) (by assumption) ?_; rotate_left 1; (focus (intro w hSw; (try dsimp only at hSw); go_simp <;> try (first | (with_reducible rfl) | (rw [if_neg (by omega)])))); try simp only [Act.put, List.setIfInBounds_toArray, List.set_cons_zero, List.set_cons_succ]); (refine wpAnyH_take (i := 8) (oi := ⟨some 67, _, _, _, _, _⟩) (v := ?_) rfl (by kernel_rfl) (by kernel_rfl) (by kernel_rfl) (fun _ _ _ h => h) (Or.inl ⟨by rfl, ?_⟩) (by assumption) ?_; rotate_left 1; (focus (intro w hSw; (try dsimp only at hSw); go_simp <;> try (first | (with_reducible rfl) | (rw [if_neg (by omega)])))); try simp only [Act.put, List.setIfInBounds_toArray, List.set_cons_zero, List.set_cons_succ]); (refine wpAnyH_take (i := 9) (oi := ⟨some 68, _, _, _, _, _⟩) (v := ?_) rfl (by kernel_rfl) (by kernel_rfl) (by kernel_rfl) (fun _ _ _ h => h) (Or.inl ⟨by rfl, ?_⟩) (by assumption) ?_; rotate_left 1; (focus (intro w hSw; (try dsimp only at hSw); go_simp <;> try (first | (with_reducible rfl) | (rw [if_neg (by omega)])))); try simp only [Act.put, List.setIfInBounds_toArray, List.set_cons_zero, List.set_cons_succ]); (refine wpAnyH_take (i := 10) (oi := ⟨some 69, _, _, _, _, _⟩) (v := ?_) rfl (by kernel_rfl) (by kernel_rfl) (by kernel_rfl) (fun _ _ _ h => h) (Or.inl ⟨by rfl, ?_⟩) (by assumption) ?_; rotate_left 1; (focus (intro w hSw; (try dsimp only at hSw); go_simp <;> try (first | (with_reducible rfl) | (rw [if_neg (by omega)])))); try simp only [Act.put, List.setIfInBounds_toArray, List.set_cons_zero, List.set_cons_succ]); (refine wpAnyH_take (i := 11) (oi := ⟨some 70, _, _, _, _, _⟩) (v := ?_) rfl (by kernel_rfl) (by kernel_rfl) (by kernel_rfl) (fun _ _ _ h => h) (Or.inl ⟨by rfl, ?_⟩) (by assumption) ?_; rotate_left 1; (focus (intro w hSw; (try dsimp only at hSw); go_simp <;> try (first | (with_reducible rfl) | (rw [if_neg (by omega)])))); try simp only [Act.put, List.setIfInBounds_toArray, List.set_cons_zero, List.set_cons_succ]); (refine wpAnyH_take (i := 12) (oi := ⟨some 71, _, _, _, _, _⟩) (v := ?_) rfl (by kernel_rfl) (by kernel_rfl) (by kernel_rfl) (fun _ _ _ h => h) (Or.inl ⟨by rfl, ?_⟩) (by assumption) ?_; rotate_left 1; (focus (intro w hSw; (try dsimp only at hSw); go_simp <;> try (first | (with_reducible rfl) | (rw [if_neg (by omega)])))); try simp only [Act.put, List.setIfInBounds_toArray, List.set_cons_zero, List.set_cons_succ]); (refine wpAnyH_take (i := 13) (oi := ⟨some 72, _, _, _, _, _⟩) (v := ?_) rfl (by kernel_rfl) (by kernel_rfl) (by kernel_rfl) (fun _ _ _ h => h) (Or.inl ⟨by rfl, ?_⟩) (by assumption) ?_; rotate_left 1; (focus (intro w hSw; (try dsimp only at hSw); go_simp <;> try (first | (with_reducible rfl) | (rw [if_neg (by omega)])))); try simp only [Act.put, List.setIfInBounds_toArray, List.set_cons_zero, List.set_cons_succ]))
          refine wpAnyH_ready (rs := [14]) (by kernel_rfl) (by simp) ?_
          refine AllReadyH.cons (o := ⟨some 73, _, _, _, _, _⟩) rfl (fun K hK => ?_) AllReadyH.nil
          go_simp
          clear hHeld
          (refine hK.out _ _ ?_ (fun hHeld => ?_))
          · exact ⟨(((Below.refl wr.heap.size wr).alloc (Nat.le_refl _) _).cell (p := ⟨ab, o + k * 2, none⟩) hab0).trans p0, (((Below.refl wr.heap.size wr).alloc (Nat.le_refl _) _).cell (p := ⟨ab, o + k * 2 + 1, none⟩) hab0).trans p1⟩
          try simp only [Act.put, List.setIfInBounds_toArray, List.set_cons_zero, List.set_cons_succ]
          refine wpAnyH_ready (rs := [15]) (by kernel_rfl) (by simp) ?_
          refine AllReadyH.cons (o := ⟨some 74, _, _, _, _, _⟩) rfl (fun K hK => ?_) AllReadyH.nil
          rw [if_pos (by rfl)]
          refine wpApp2S (.tmp 59) (.tmp 73) rfl wr.drew _ rfl _ _ _ JB (x0 - t) x1 rfl (own_drewQ hown8) rfl (by omega) (by exact hz) ?_
          intro v2 w2 o8 g8 n8
          have bw2 : Below w.heap.size wr w2 := ((Below.refl wr.heap.size wr).drew.alloc (Nat.le_refl _) _ |>.mono hz).trans (below_row (World.ownsRow.alloc (w := wr.drew) hown8 _) g8 (by simp; omega))
          clear hHeld
          (refine hK.out _ _ ?_ (fun hHeld => ?_))
          · exact ⟨(bw2.cell (p := ⟨ab, o + k * 2, none⟩) hbB).trans p0, (bw2.cell (p := ⟨ab, o + k * 2 + 1, none⟩) hbB).trans p1⟩
          ((refine wpAnyH_take (i := 16) (oi := ⟨some 8, _, _, _, _, _⟩) (v := ?_) rfl (by kernel_rfl) (by kernel_rfl) (by kernel_rfl) (fun _ _ _ h => h) (Or.inl ⟨by rfl, ?_⟩) (by assumption) ?_; rotate_left 1; (focus (intro w hSw; (try dsimp only at hSw); go_simp <;> try (first | (with_reducible rfl) | (rw [if_neg (by omega)])))); try simp only [Act.put, List.setIfInBounds_toArray, List.set_cons_zero, List.set_cons_succ]))
          refine wpAnyH_done (by kernel_rfl) ?_ _
          go_wp2
          obtain ⟨so2, sap2⟩ := two_app (W := wr.drew) hown8 hown7 hap.symm g8 n8
          go_roundw
          case rel => exact ⟨k + 1, by omega, by go_num, by rw [HL.out], hb.trans bw2, Nat.le_trans hz bw2.size, by rw [EA.out]; exact so2, by rw [EB.out, List.length_append]; exact o8, sap2.symm⟩
          case measure => simp [intOf]; omega
      · obtain rfl : k = la0 := by omega
        obtain ⟨A7, c7, rfl, hw7⟩ := own_wrSection hown7
        obtain ⟨A8, c8, rfl, hw8⟩ := own_wrSection hown8
        have hdis := apart_dis hap rfl rfl (fun h0 => by obtain ⟨g, cap, e, _⟩ := own_form' hown7 h0; injection e with e _ _; exact ⟨g, e⟩)
        go_wp2
        go_ret3
        exact ⟨A7, A8, c7, c8, rfl, hb, hw7, hw8, hdis⟩
  · have e0 : r0_CutDike xa0 a1 = [] := by unfold r0_CutDike; rw [hln, if_neg h]
    have e1 : r1_CutDike xa0 a1 = [] := by unfold r1_CutDike; rw [hln, if_neg h]
    by_cases hv : DkOk la0 xa0
    · have e2 : r2_CutDike xa0 a1 = 2 := by unfold r2_CutDike; rw [hln]; exact dcode_no hv (fun p => h ⟨hv, p⟩)
      rw [e0, e1, e2]
      have hn2 : a1 < 1 ∨ lenN xa0 la0 - 1 < a1 := by
        by_cases hy : 1 ≤ a1 ∧ a1 ≤ lenN xa0 la0 - 1
        · exact absurd ⟨hv, hy.1, by rw [hln]; exact hy.2⟩ h
        · omega
      have HV := Lib.hid hv
      have h30 := hv.2.2
      obtain ⟨g1, g2⟩ := lenN_bd hv la0 (Nat.le_refl _)
      obtain ⟨M, hM⟩ : ∃ M, M = lenN xa0 la0 := ⟨_, rfl⟩
      rw [← hM] at hn2 g1 g2
      have HN := Lib.hid hM.symm
      clear e0 e1 e2 h hM hv
      go_enter Try.func41, Try.ntmps41
      go_wp2_with (first | (go_at_call 50; refine (l07Ok_any _ _ _ xa0 _ ha0 RA.out true ⟨fun _ => HV.out, fun _ => rfl⟩).mono ?_; rintro eo wo ⟨rfl, rfl⟩) | (go_at_call 56; refine (lengthS_t _ _ _ xa0 _ ha0 RA.out HV.out).mono ?_; rintro e3 w3 ⟨rfl, rfl⟩; rw [HN.out]) | (go_at_call 59; first | (refine (in_t _ _ _ _ (by omega)).mono ?_; rintro e w' ⟨rfl, rfl⟩) | (refine (in_f _ _ _ _ (by omega)).mono ?_; rintro e w' ⟨rfl, rfl⟩)))
      go_ret3
      exact ⟨none, none, 0, 0, rfl, Below.refl _ _, ⟨rfl, fun h => absurd h (by simp)⟩, ⟨rfl, fun h => absurd h (by simp)⟩, fun h => absurd h (by simp)⟩
    · have e2 : r2_CutDike xa0 a1 = 1 := by unfold r2_CutDike; rw [hln]; exact dcode_bad hv
      rw [e0, e1, e2]
      have HV := Lib.hid hv
      clear e0 e1 e2 h hv
      go_enter Try.func41, Try.ntmps41
      go_wp2_with (first | (go_at_call 50; refine (l07Ok_any _ _ _ xa0 _ ha0 RA.out false ⟨fun h => by simp at h, fun h => absurd h HV.out⟩).mono ?_; rintro eo wo ⟨rfl, rfl⟩))
      go_ret3
      exact ⟨none, none, 0, 0, rfl, Below.refl _ _, ⟨rfl, fun h => absurd h (by simp)⟩, ⟨rfl, fun h => absurd h (by simp)⟩, fun h => absurd h (by simp)⟩

theorem cut_dec {n : Nat} {xs : List RSection} (hl : xs.length = n) (m : Int) (h : DkOk n xs) : decide (1 ≤ m ∧ m ≤ wrap64 (lnW xs n - 1)) = decide (cutP xs m) := by
  have b := lenN_bd h n (Nat.le_refl _)
  have := h.2.2
  rw [lnW_ok h n (Nat.le_refl _), IntWalk.wrap64_in _ (by omega)]
  subst hl
  rfl

set_option maxRecDepth 100000 in
set_option maxHeartbeats 1600000 in
theorem implC_CutDike (a0 : Option Addr) (la0 ca0 : Nat) (xa0 : List RSection) (a1 : Int) (w : World) (ha0 : la0 ≤ 1048576) (ra0 : Rd_Section w w.heap.size a0 la0 xa0) (fa0 : Wf_Section xa0) (ha1 : (Lit.int .i64 a1).wf = true) (ka0 : la0 ≤ ca0) :
    Calls Try.prog 42 #[.slice a0 la0 ca0, .int .i64 a1] w fun e w' => ∃ B0 B1 dB0 dB1, e = .returned (.tuple #[.slice B0 (r0_CutDike xa0 a1).length dB0, .slice B1 (r1_CutDike xa0 a1).length dB1, .int .i64 (r2_CutDike xa0 a1)]) ∧ Below w.heap.size w w' ∧ Wr_Section w' w.heap.size B0 (r0_CutDike xa0 a1).length (r0_CutDike xa0 a1) ∧ Wr_Section w' w.heap.size B1 (r1_CutDike xa0 a1).length (r1_CutDike xa0 a1) ∧ Dis B0 (r0_CutDike xa0 a1).length B1 (r1_CutDike xa0 a1).length := by
  have hln := ra0.len
  have RA := Lib.hid ra0
  clear ra0
  clear fa0
  obtain ⟨v, hv2⟩ : ∃ v, decide (1 ≤ a1 ∧ a1 ≤ wrap64 (lnW xa0 la0 - 1)) = v := ⟨_, rfl⟩
  have HB := Lib.hid (fun (h : DkOk la0 xa0) => hv2.symm.trans (cut_dec hln a1 h))
  have H2 := Lib.hid hv2
  clear hv2
  by_cases h : DkOk la0 xa0 ∧ cutP xa0 a1
  · have e0 : r0_CutDike xa0 a1 = cutA xa0 a1 la0 := by unfold r0_CutDike; rw [hln, if_pos h]
    have e1 : r1_CutDike xa0 a1 = cutB xa0 a1 la0 := by unfold r1_CutDike; rw [hln, if_pos h]
    have e2 : r2_CutDike xa0 a1 = 0 := by unfold r2_CutDike; rw [hln]; exact dcode_ok h.1 h.2
    rw [e0, e1, e2]
    have HV := Lib.hid h.1
    have h30 := h.1.2.2
    have h1 := h.1.2.1
    obtain ⟨h2, h3⟩ := h.2
    rw [hln] at h3
    have HC := Lib.hid (dcode_ok h.1 h.2)
    have h4 : a1 < lenN xa0 la0 := by omega
    have HK0 := secF_is (n := la0) h.1 (show 0 ≤ a1 by omega) h4
    obtain ⟨k, hk⟩ : ∃ k, k = secF xa0 a1 la0 := ⟨_, rfl⟩
    rw [← hk] at HK0
    obtain ⟨eA, eB⟩ := cut_all h.1 hln HK0
    rw [eA, eB]
    obtain ⟨hk1, hk2, hk3⟩ := HK0
    have hs1 : lenN xa0 (k + 1) = lenN xa0 k + (xa0.getD k zSection).f0 := rfl
    have hd := h.1.1 k hk1
    obtain ⟨u1, u2⟩ := lenN_bd h.1 k (by omega)
    have HKE := Lib.hid hk
    have HN := Lib.hid h4
    have HDC := Lib.hid (drop_cons (xs := xa0) (k := k) (by omega))
    obtain ⟨ab, o, rfl, hbB, hc⟩ := RA.out.at (by omega)
    have i1 : (k : Int) ≤ (ca0 : Int) := by omega
    have i2 : (k : Int) ≤ (la0 : Int) := by omega
    have i3 : (la0 : Int) ≤ (ca0 : Int) := by omega
    have i4 : ¬ ca0 = k := by omega
    have i5 : ¬ k = ca0 := by omega
    have i6 : (0 : Int) ≤ (k : Int) := by omega
    have R1 := Lib.hid (RA.out.take (k := k) (by omega))
    have R2 := Lib.hid (RA.out.drop (k := k) (by omega))
    have hl1 : (xa0.take k).length = k := by rw [List.length_take]; omega
    have hl2 : (xa0.drop (k + 1)).length = la0 - (k + 1) := by rw [List.length_drop]; omega
    obtain ⟨x, hx⟩ := getZs xa0 k
    obtain ⟨s, hs⟩ : ∃ s, s = lenN xa0 k := ⟨_, rfl⟩
    have HX := Lib.hid hx
    have HS := Lib.hid hs
    rw [← hx] at hd hs1 HDC ⊢
    rw [← hs] at hs1 hk2 u1 u2 ⊢
    clear e0 e1 e2 h hc eA eB hx hs hk
    obtain ⟨x0, x1⟩ := x
    obtain ⟨d0, d1, _, _⟩ := hd
    simp only at d0 d1 hs1 ⊢
    have f2 := IntWalk.i64_in (a1 - s) (by omega)
    have HE := Lib.hid (show wrap64 (s + x0) = s + x0 from IntWalk.wrap64_in _ (by omega))
    have f3 := IntWalk.i64_in (s + x0 - a1) (by omega)
    have hk5 : a1 < s + x0 := by omega
    obtain ⟨P1, hP1⟩ : ∃ P, P = xa0.take k := ⟨_, rfl⟩
    obtain ⟨P2, hP2⟩ : ∃ P, P = xa0.drop (k + 1) := ⟨_, rfl⟩
    rw [← hP1] at R1 hl1 ⊢
    rw [← hP2] at HDC hl2 ⊢
    have HR2 := R2.out
    rw [HDC.out] at HR2
    have R2 := Lib.hid HR2
    obtain ⟨FA, hFA⟩ : ∃ F, F = P1 ++ (if s < a1 then [⟨a1 - s, x1⟩] else []) := ⟨_, rfl⟩
    obtain ⟨FB, hFB⟩ : ∃ F, F = (⟨x0 - (a1 - s), x1⟩ : RSection) :: P2 := ⟨_, rfl⟩
    rw [← hFA, ← hFB]
    have HFA := Lib.hid hFA
    have L2 : FB.length = la0 - k := by rw [hFB, List.length_cons, hl2]; omega
    have HFB := Lib.hid hFB
    clear hP1 hP2 HR2 hFA hFB
    go_enter Try.func42, Try.ntmps42
    go_wp2_with (first | (go_at_call 58; refine (lengthI_t _ _ _ xa0 _ ha0 ((RA.out.below (by repeat (first | assumption | exact Below.refl _ _ | (refine Below.setCell ?_ (by first | omega | (simp; done) | (simp; omega)) _) | apply below_drewN | apply Below.drew | (refine Below.alloc ?_ (by first | omega | (simp; done) | (simp; omega)) _)))).mono (by first | omega | (simp; done) | (simp; omega)))).mono ?_; rintro e3 W3 ⟨rfl, b3⟩; have s3 : w.heap.size ≤ W3.heap.size := (by have := b3.size; (try simp at this); omega)) | (go_at_call 52; refine (within_any _ _ _ _).mono ?_; rintro ew ww ⟨rfl, rfl⟩; rw [H2.out]) | (go_at_call 57; refine (dikeCode_t _ _ _ xa0 _ (cutP xa0 a1) _ ha0 ((RA.out.below (by repeat (first | assumption | exact Below.refl _ _ | (refine Below.trans ?_ (b3.mono (by first | omega | (simp; done) | (simp; omega)))) | (refine Below.setCell ?_ (by first | omega | (simp; done) | (simp; omega)) _) | apply below_drewN | apply Below.drew | (refine Below.alloc ?_ (by first | omega | (simp; done) | (simp; omega)) _)))).mono (by first | omega | (simp; done) | (simp; omega))) HB.out _ HC.out).mono ?_; rintro ed W2 ⟨rfl, b2⟩; have s2 : w.heap.size ≤ W2.heap.size := (by have := b2.size; (try simp at this); omega); have d2 : Below w.heap.size w W2 := (by repeat (first | assumption | exact Below.refl _ _ | (refine Below.trans ?_ (b2.mono (by first | omega | (simp; done) | (simp; omega)))) | (refine Below.trans ?_ (b3.mono (by first | omega | (simp; done) | (simp; omega)))) | (refine Below.setCell ?_ (by first | omega | (simp; done) | (simp; omega)) _) | apply below_drewN | apply Below.drew | (refine Below.alloc ?_ (by first | omega | (simp; done) | (simp; omega)) _)))) | (go_at_call 60; refine (placeWith_t _ _ _ xa0 a1 _ ha0 ((RA.out.below d2).mono (by first | omega | (simp; done) | (simp; omega))) HV.out (by omega) HN.out k HKE.out).mono ?_; rintro e4 W4 ⟨rfl, b4⟩; rw [← HX.out, ← HS.out]; have s4 := b4.size))
    have d4 : Below w.heap.size w W4 := (by repeat (first | assumption | exact Below.refl _ _ | (refine Below.trans ?_ (b4.mono (by first | omega | (simp; done) | (simp; omega)))) | (refine Below.trans ?_ (d2.mono (by first | omega | (simp; done) | (simp; omega)))) | (refine Below.setCell ?_ (by first | omega | (simp; done) | (simp; omega)) _) | apply below_drewN | apply Below.drew | (refine Below.alloc ?_ (by first | omega | (simp; done) | (simp; omega)) _)))
    have l4 : w.heap.size ≤ W4.heap.size := by omega
    have d5 : Below w.heap.size w (W4.alloc (.cells #[.int .i64 x0, .int .i64 x1, .int .i64 s] 71)) := (by repeat (first | assumption | exact Below.refl _ _ | (refine Below.trans ?_ (d4.mono (by first | omega | (simp; done) | (simp; omega)))) | (refine Below.setCell ?_ (by first | omega | (simp; done) | (simp; omega)) _) | apply below_drewN | apply Below.drew | (refine Below.alloc ?_ (by first | omega | (simp; done) | (simp; omega)) _)))
    have z0 : (W4.alloc (.cells #[.int .i64 x0, .int .i64 x1, .int .i64 s] 71)).cell? ⟨W4.heap.size, 0, none⟩ = some (.int .i64 x0) := (World.cell?_alloc_new (w := W4) #[.int .i64 x0, .int .i64 x1, .int .i64 s] 71 0).trans rfl
    have z1 : (W4.alloc (.cells #[.int .i64 x0, .int .i64 x1, .int .i64 s] 71)).cell? ⟨W4.heap.size, 1, none⟩ = some (.int .i64 x1) := (World.cell?_alloc_new (w := W4) #[.int .i64 x0, .int .i64 x1, .int .i64 s] 71 1).trans rfl
    have z2 : (W4.alloc (.cells #[.int .i64 x0, .int .i64 x1, .int .i64 s] 71)).cell? ⟨W4.heap.size, 2, none⟩ = some (.int .i64 s) := (World.cell?_alloc_new (w := W4) #[.int .i64 x0, .int .i64 x1, .int .i64 s] 71 2).trans rfl
    have l5 : W4.heap.size < (W4.alloc (.cells #[.int .i64 x0, .int .i64 x1, .int .i64 s] 71)).heap.size := by simp
    generalize (W4.alloc (.cells #[.int .i64 x0, .int .i64 x1, .int .i64 s] 71)) = W5 at *
    go_region_held3 (fun w' => w'.cell? ⟨W4.heap.size, 0, none⟩ = some (.int .i64 x0) ∧ w'.cell? ⟨W4.heap.size, 1, none⟩ = some (.int .i64 x1) ∧ w'.cell? ⟨W4.heap.size, 2, none⟩ = some (.int .i64 s)) (go_keep)
      (first | (go_at_call 69; first | (refine (cloneS_t ⟨ab, o, none⟩ k ca0 P1 _ (by omega) ((R1.out.below (by repeat (first | assumption | exact Below.refl _ _ | (refine Below.trans ?_ (d5.mono (by first | omega | (simp; done) | (simp; omega)))) | (refine Below.setCell ?_ (by first | omega | (simp; done) | (simp; omega)) _) | apply below_drewN | apply Below.drew | (refine Below.alloc ?_ (by first | omega | (simp; done) | (simp; omega)) _)))).mono (by show w.heap.size ≤ W5.heap.size; omega))).mono ?_; rintro ea Wa ⟨va, rfl, ba, hoa⟩; have sa : W5.heap.size ≤ Wa.heap.size := ba.size; have da : Below w.heap.size w Wa := (by repeat (first | assumption | exact Below.refl _ _ | (refine Below.trans ?_ (ba.mono (by first | omega | (simp; done) | (simp; omega)))) | (refine Below.trans ?_ (d5.mono (by first | omega | (simp; done) | (simp; omega)))) | (refine Below.setCell ?_ (by first | omega | (simp; done) | (simp; omega)) _) | apply below_drewN | apply Below.drew | (refine Below.alloc ?_ (by first | omega | (simp; done) | (simp; omega)) _))); have y0 : Wa.cell? ⟨W4.heap.size, 0, none⟩ = _ := (ba.cell (p := ⟨W4.heap.size, 0, none⟩) (show W4.heap.size < W5.heap.size from l5)).trans z0; have y1 : Wa.cell? ⟨W4.heap.size, 1, none⟩ = _ := (ba.cell (p := ⟨W4.heap.size, 1, none⟩) (show W4.heap.size < W5.heap.size from l5)).trans z1; have y2 : Wa.cell? ⟨W4.heap.size, 2, none⟩ = _ := (ba.cell (p := ⟨W4.heap.size, 2, none⟩) (show W4.heap.size < W5.heap.size from l5)).trans z2) | (refine (cloneS_t ⟨ab, o + k * 2, none⟩ (la0 - k) (ca0 - k) (⟨x0, x1⟩ :: P2) _ (by omega) ((R2.out.below (by repeat (first | assumption | exact Below.refl _ _ | (refine Below.trans ?_ (da.mono (by first | omega | (simp; done) | (simp; omega)))) | (refine Below.setCell ?_ (by first | omega | (simp; done) | (simp; omega)) _) | apply below_drewN | apply Below.drew | (refine Below.alloc ?_ (by first | omega | (simp; done) | (simp; omega)) _)))).mono (by omega))).mono ?_; rintro eb Wb ⟨vb, rfl, bb, hob⟩; have sb : Wa.heap.size ≤ Wb.heap.size := bb.size; have db : Below w.heap.size w Wb := (by repeat (first | assumption | exact Below.refl _ _ | (refine Below.trans ?_ (bb.mono (by first | omega | (simp; done) | (simp; omega)))) | (refine Below.trans ?_ (da.mono (by first | omega | (simp; done) | (simp; omega)))) | (refine Below.setCell ?_ (by first | omega | (simp; done) | (simp; omega)) _) | apply below_drewN | apply Below.drew | (refine Below.alloc ?_ (by first | omega | (simp; done) | (simp; omega)) _))); have hoa2 := owns_below hoa bb; have xx0 : Wb.cell? ⟨W4.heap.size, 0, none⟩ = _ := (bb.cell (p := ⟨W4.heap.size, 0, none⟩) (show W4.heap.size < Wa.heap.size by omega)).trans y0; have xx1 : Wb.cell? ⟨W4.heap.size, 1, none⟩ = _ := (bb.cell (p := ⟨W4.heap.size, 1, none⟩) (show W4.heap.size < Wa.heap.size by omega)).trans y1; have xx2 : Wb.cell? ⟨W4.heap.size, 2, none⟩ = _ := (bb.cell (p := ⟨W4.heap.size, 2, none⟩) (show W4.heap.size < Wa.heap.size by omega)).trans y2)))
    have hap : Apart va vb := fun g e1 e2 => by
      have t1 := (hoa.lt g e1).2
      have t2 := (hob.lt g e2).1
      exact absurd t1 (by omega)
    have hA := own_monoR hoa2 (show w.heap.size ≤ _ by show w.heap.size ≤ W5.heap.size; omega)
    have hB := own_monoR hob (show w.heap.size ≤ _ by omega)
    have hva : some W4.heap.size ≠ va.ownBlock := fun e => by
      have t1 := (hoa.lt _ e.symm).1
      exact absurd t1 (by show ¬ W5.heap.size ≤ W4.heap.size; omega)
    clear hoa hoa2 hob
    obtain ⟨g, cap, rfl, hg0, hg1, hcap⟩ := own_form' hB (by omega)
    have hbx : W4.heap.size < Wb.heap.size := by omega
    by_cases c : s < a1
    · obtain rfl : FA = P1 ++ [⟨a1 - s, x1⟩] := by rw [HFA.out, if_pos c]
      have L1 : (P1 ++ [(⟨a1 - s, x1⟩ : RSection)]).length = k + 1 := by rw [List.length_append, hl1]; rfl
      obtain rfl : FB = ⟨s + x0 - a1, x1⟩ :: P2 := by rw [HFB.out, show x0 - (a1 - s) = s + x0 - a1 by omega]
      go_wp2_with (first | (at_builtin; refine wplApp2S rfl _ _ rfl Wb _ rfl _ _ _ P1 (a1 - s) x1 rfl hA rfl (by omega) (by omega) ?_; intro v1 w1 o7 g7 n7; obtain ⟨so, sap⟩ := two_app hA hB hap g7 n7; have bw0 : Below w.heap.size Wb w1 := ((Below.refl Wb.heap.size Wb).alloc (Nat.le_refl _) _ |>.mono (by omega)).trans (below_row (hA.alloc _) g7 (by simp; omega)); have sz1 := bw0.size; have yy0 : w1.cell? ⟨W4.heap.size, 0, none⟩ = some (.int .i64 x0) := (World.cell?_of_block (a := ⟨W4.heap.size, 0, none⟩) (g7.block W4.heap.size (by simp; omega) hva)).trans ((((Below.refl Wb.heap.size Wb).alloc (Nat.le_refl _) _).cell (p := ⟨W4.heap.size, 0, none⟩) hbx).trans xx0); have yy1 : w1.cell? ⟨W4.heap.size, 1, none⟩ = some (.int .i64 x1) := (World.cell?_of_block (a := ⟨W4.heap.size, 1, none⟩) (g7.block W4.heap.size (by simp; omega) hva)).trans ((((Below.refl Wb.heap.size Wb).alloc (Nat.le_refl _) _).cell (p := ⟨W4.heap.size, 1, none⟩) hbx).trans xx1); have yy2 : w1.cell? ⟨W4.heap.size, 2, none⟩ = some (.int .i64 s) := (World.cell?_of_block (a := ⟨W4.heap.size, 2, none⟩) (g7.block W4.heap.size (by simp; omega) hva)).trans ((((Below.refl Wb.heap.size Wb).alloc (Nat.le_refl _) _).cell (p := ⟨W4.heap.size, 2, none⟩) hbx).trans xx2); obtain ⟨t, tf⟩ := own_at so (k := 0) (by omega); obtain ⟨t0, t1⟩ := t; obtain ⟨tf0, tf1⟩ := tf) | (go_at_call 74; refine (end_t _ _ _ _ _ HE.out).mono ?_; rintro ee w2 ⟨rfl, be⟩; have hgw : g < w1.heap.size := (so.lt g rfl).2; have r0 : w2.cell? ⟨g, 0, none⟩ = some (.int .i64 x0) := (be.cell (p := ⟨g, 0, none⟩) hgw).trans t0; have rf0 : w2.frozen? ⟨g, 0, none⟩ = false := (be.frozen (p := ⟨g, 0, none⟩) hgw).trans tf0))
      have hne : v1.ownBlock ≠ some g := fun e => sap g e rfl
      have o9 := ownsRow_setCell_other (owns_below o7 be) (a := ⟨g, 0, none⟩) hne (.int .i64 (s + x0 - a1))
      have o10 := own_set0 (owns_below so be) (k := 0) (by rw [List.length_cons]; omega) (s + x0 - a1)
      obtain ⟨A7, c7, rfl, hw7⟩ := own_wrSection o9
      obtain ⟨A8, c8, e8, hw8⟩ := own_wrSection o10
      injection e8 with e8 _ e9
      subst e8
      subst e9
      have hdis := apart_dis sap rfl rfl (fun h0 => by obtain ⟨g', cap', e, _⟩ := own_form' o9 h0; injection e with e _ _; exact ⟨g', e⟩)
      have d9 : Below w.heap.size w w2 := (db.trans bw0).trans (be.mono (by omega))
      go_ret3
      refine ⟨A7, some ⟨g, 0, none⟩, c7, cap, ?_, (by repeat (first | assumption | exact Below.refl _ _ | (refine Below.trans ?_ (d9.mono (by first | omega | (simp; done) | (simp; omega)))) | (refine Below.setCell ?_ (by first | omega | (simp; done) | (simp; omega)) _) | apply below_drewN | apply Below.drew | (refine Below.alloc ?_ (by first | omega | (simp; done) | (simp; omega)) _))), ?_, ?_, ?_⟩
      · first | rfl | (rw [L1, L2]; rfl)
      · first | exact hw7 | (rw [L1]; exact hw7)
      · first | exact hw8 | (rw [L2]; exact hw8)
      · first | exact hdis | (rw [L1, L2]; exact hdis)
    · have ec : s = a1 := by omega
      subst ec
      obtain rfl : FA = P1 := by rw [HFA.out, if_neg c, List.append_nil]
      obtain rfl : FB = ⟨x0, x1⟩ :: P2 := by rw [HFB.out, show x0 - (s - s) = x0 by omega]
      obtain ⟨A7, c7, rfl, hw7⟩ := own_wrSection hA
      obtain ⟨A8, c8, e8, hw8⟩ := own_wrSection hB
      injection e8 with e8 _ e9
      subst e8
      subst e9
      have hdis := apart_dis hap rfl rfl (fun h0 => by obtain ⟨g', cap', e, _⟩ := own_form' hA h0; injection e with e _ _; exact ⟨g', e⟩)
      go_wp2
      go_ret3
      first | refine ⟨A7, some ⟨g, 0, none⟩, ⟨c7, cap, ?_⟩, db, ?_, ?_, ?_⟩ | refine ⟨A7, some ⟨g, 0, none⟩, c7, cap, ?_, db, ?_, ?_, ?_⟩
      · first | rfl | (rw [hl1, L2]; rfl)
      · first | exact hw7 | (rw [hl1]; exact hw7)
      · first | exact hw8 | (rw [L2]; exact hw8)
      · first | exact hdis | (rw [hl1, L2]; exact hdis)
  · have e0 : r0_CutDike xa0 a1 = [] := by unfold r0_CutDike; rw [hln, if_neg h]
    have e1 : r1_CutDike xa0 a1 = [] := by unfold r1_CutDike; rw [hln, if_neg h]
    have e3 : r2_CutDike xa0 a1 = dcode la0 xa0 (cutP xa0 a1) := by unfold r2_CutDike; rw [hln]
    rw [e0, e1, e3]
    have e2 := dcode_ne h
    obtain ⟨C, hC⟩ : ∃ C, dcode la0 xa0 (cutP xa0 a1) = C := ⟨_, rfl⟩
    rw [hC] at e2 ⊢
    have HC := Lib.hid hC
    clear e0 e1 e3 h hC
    go_enter Try.func42, Try.ntmps42
    go_wp2_with (first | (go_at_call 58; refine (lengthI_t _ _ _ xa0 _ ha0 ((RA.out.below (by repeat (first | assumption | exact Below.refl _ _ | (refine Below.setCell ?_ (by first | omega | (simp; done) | (simp; omega)) _) | apply below_drewN | apply Below.drew | (refine Below.alloc ?_ (by first | omega | (simp; done) | (simp; omega)) _)))).mono (by first | omega | (simp; done) | (simp; omega)))).mono ?_; rintro e3 W3 ⟨rfl, b3⟩; have s3 : w.heap.size ≤ W3.heap.size := (by have := b3.size; (try simp at this); omega)) | (go_at_call 52; refine (within_any _ _ _ _).mono ?_; rintro ew ww ⟨rfl, rfl⟩; rw [H2.out]) | (go_at_call 57; refine (dikeCode_t _ _ _ xa0 _ (cutP xa0 a1) _ ha0 ((RA.out.below (by repeat (first | assumption | exact Below.refl _ _ | (refine Below.trans ?_ (b3.mono (by first | omega | (simp; done) | (simp; omega)))) | (refine Below.setCell ?_ (by first | omega | (simp; done) | (simp; omega)) _) | apply below_drewN | apply Below.drew | (refine Below.alloc ?_ (by first | omega | (simp; done) | (simp; omega)) _)))).mono (by first | omega | (simp; done) | (simp; omega))) HB.out _ HC.out).mono ?_; rintro ed W2 ⟨rfl, b2⟩; have s2 : w.heap.size ≤ W2.heap.size := (by have := b2.size; (try simp at this); omega); have d2 : Below w.heap.size w W2 := (by repeat (first | assumption | exact Below.refl _ _ | (refine Below.trans ?_ (b2.mono (by first | omega | (simp; done) | (simp; omega)))) | (refine Below.trans ?_ (b3.mono (by first | omega | (simp; done) | (simp; omega)))) | (refine Below.setCell ?_ (by first | omega | (simp; done) | (simp; omega)) _) | apply below_drewN | apply Below.drew | (refine Below.alloc ?_ (by first | omega | (simp; done) | (simp; omega)) _)))))
    go_ret3
    exact ⟨none, none, 0, 0, rfl, (by repeat (first | assumption | exact Below.refl _ _ | (refine Below.trans ?_ (b2.mono (by first | omega | (simp; done) | (simp; omega)))) | (refine Below.trans ?_ (b3.mono (by first | omega | (simp; done) | (simp; omega)))) | (refine Below.setCell ?_ (by first | omega | (simp; done) | (simp; omega)) _) | apply below_drewN | apply Below.drew | (refine Below.alloc ?_ (by first | omega | (simp; done) | (simp; omega)) _))), ⟨rfl, fun h => absurd h (by simp)⟩, ⟨rfl, fun h => absurd h (by simp)⟩, fun h => absurd h (by simp)⟩

end Go.Proofs.Ytagnhlcgfcppjaa
