import Derived.Test.YtagnhlcgfcppjaaLeast
namespace Go.Proofs.Ytagnhlcgfcppjaa
open Go.RowKit

def bnP (c : Int) : Prop := 0 ≤ c ∧ c ≤ 1000000000
instance (c : Int) : Decidable (bnP c) := by unfold bnP; exact inferInstance
def r0_BestNorm (xa0 : List RSection) (a1 : Int) : Int := if DkOk xa0.length xa0 ∧ bnP a1 then bestF xa0 xa0.length a1 4000 else 0
def r1_BestNorm (xa0 : List RSection) (a1 : Int) : Int := dcode xa0.length xa0 (bnP a1)
theorem best_clay0 {xs : List RSection} {n : Nat} (h : DkOk n xs) : clay xs n (xs.getD (wkF xs n) zSection).f1 = 0 := by
  obtain ⟨k0, rfl⟩ : ∃ k0, n = k0 + 1 := ⟨n - 1, by have := h.2.1; omega⟩
  have hw := wkF_is xs k0
  unfold clay
  rw [clN_low (n := k0 + 1) (fun j hj => hw.2.1 j hj) (k0 + 1) (Nat.le_refl _)]
  rfl
theorem best_eq {xs : List RSection} {n : Nat} {c : Int} (h : DkOk n xs) (hc : 0 ≤ c) {b : Int} (hb : IsBest xs n c b) : bestF xs n c 4000 = b := IsBest.uniq h (bestF_is h hc) hb

set_option maxHeartbeats 1600000 in
theorem implC_BestNorm (a0 : Option Addr) (la0 ca0 : Nat) (xa0 : List RSection) (a1 : Int) (w : World) (ha0 : la0 ≤ 1048576) (ra0 : Rd_Section w w.heap.size a0 la0 xa0) (fa0 : Wf_Section xa0) (ha1 : (Lit.int .i64 a1).wf = true) :
    Calls Try.prog 40 #[.slice a0 la0 ca0, .int .i64 a1] w fun e w' => e = .returned (.tuple #[.int .i64 (r0_BestNorm xa0 a1), .int .i64 (r1_BestNorm xa0 a1)]) ∧ Below w.heap.size w w' := by
  have hln := ra0.len
  have RA := Lib.hid ra0
  clear ra0
  obtain ⟨v, hv2⟩ : ∃ v, decide (0 ≤ a1 ∧ a1 ≤ 1000000000) = v := ⟨_, rfl⟩
  have H2 := Lib.hid hv2
  have HB := Lib.hid (fun (_ : DkOk la0 xa0) => (show v = decide (bnP a1) from hv2.symm))
  clear hv2
  by_cases h : DkOk la0 xa0 ∧ bnP a1
  · have e0 : r0_BestNorm xa0 a1 = bestF xa0 la0 a1 4000 := by unfold r0_BestNorm; rw [hln, if_pos h]
    have e1 : r1_BestNorm xa0 a1 = 0 := by unfold r1_BestNorm; rw [hln]; exact dcode_ok h.1 h.2
    rw [e0, e1]
    have HV := Lib.hid h.1
    have HC := Lib.hid (dcode_ok h.1 h.2)
    have h1 := h.1.2.1
    obtain ⟨g1, g2⟩ := h.2
    have hd := h.1.1 _ (wkF_lt xa0 la0 h1)
    have HZ := best_clay0 h.1
    have HU := Lib.hid (fun b (hb : IsBest xa0 la0 a1 b) => best_eq h.1 g1 hb)
    have HI := Lib.hid (show ∀ b, (xa0.getD (wkF xa0 la0) zSection).f1 ≤ b → b ≤ 2000 → clay xa0 la0 b ≤ a1 → (b = 2000 ∨ a1 < clay xa0 la0 (b + 1)) → IsBest xa0 la0 a1 b from fun b x1 x2 x3 x4 => ⟨x1, x2, x3, x4⟩)
    obtain ⟨y, hy⟩ : ∃ y, y = (xa0.getD (wkF xa0 la0) zSection).f1 := ⟨_, rfl⟩
    rw [← hy] at hd HZ HI
    have HY := Lib.hid hy.symm
    obtain ⟨_, _, y1, y2⟩ := hd
    have HZ := Lib.hid HZ
    obtain ⟨N, hN⟩ : ∃ N : Nat, y + (N : Int) = 2001 := ⟨(2001 - y).toNat, by omega⟩
    have f0 := IntWalk.i64_in (a1 + 1) (by omega)
    clear e0 e1 h hy
    go_enter Try.func40, Try.ntmps40
    go_wp2_with (first | (go_at_call 52; refine (within_any _ _ _ _).mono ?_; rintro ew ww ⟨rfl, rfl⟩; rw [H2.out]) | (go_at_call 57; refine (dikeCode_t _ _ _ xa0 _ (bnP a1) _ ha0 ((RA.out.below (by repeat (first | assumption | exact Below.refl _ _ | (refine Below.setCell ?_ (by first | omega | (simp; done) | (simp; omega)) _) | apply below_drewN | apply Below.drew | (refine Below.alloc ?_ (by first | omega | (simp; done) | (simp; omega)) _)))).mono (by first | omega | (simp; done) | (simp; omega))) HB.out _ HC.out).mono ?_; rintro ed W2 ⟨rfl, b2⟩; have s2 : w.heap.size ≤ W2.heap.size := (by have := b2.size; (try simp at this); omega); have d2 : Below w.heap.size w W2 := (by repeat (first | assumption | exact Below.refl _ _ | (refine Below.trans ?_ (b2.mono (by first | omega | (simp; done) | (simp; omega)))) | (refine Below.setCell ?_ (by first | omega | (simp; done) | (simp; omega)) _) | apply below_drewN | apply Below.drew | (refine Below.alloc ?_ (by first | omega | (simp; done) | (simp; omega)) _)))) | (go_at_call 65; refine (lowestCrest_t _ _ _ xa0 _ ha0 h1 ((RA.out.below d2).mono (by first | omega | (simp; done) | (simp; omega)))).mono ?_; rintro e3 W3 ⟨rfl, b3⟩; rw [HY.out]; have s3 := b3.size; have d3 : Below w.heap.size w W3 := (by repeat (first | assumption | exact Below.refl _ _ | (refine Below.trans ?_ (b3.mono (by first | omega | (simp; done) | (simp; omega)))) | (refine Below.trans ?_ (d2.mono (by first | omega | (simp; done) | (simp; omega)))) | (refine Below.setCell ?_ (by first | omega | (simp; done) | (simp; omega)) _) | apply below_drewN | apply Below.drew | (refine Below.alloc ?_ (by first | omega | (simp; done) | (simp; omega)) _)))) | (go_at_call 72; refine (leastD_t _ _ _ xa0 y (a1 + 1) N _ ha0 ((RA.out.below d3).mono (by omega)) HV.out y1 y2 hN).mono ?_; rintro e4 W4 ⟨p, rfl, b4, q0, q1, q2⟩; have f1 := IntWalk.i64_in (y + (p : Int) - 1) (by omega)))
    go_ret2
    have hp0 : 0 < p := by
      rcases Nat.eq_zero_or_pos p with e | e
      · subst e
        have := q2 (by omega)
        rw [show y + ((0 : Nat) : Int) = y by simp, HZ.out] at this
        omega
      · exact e
    have hb : bestF xa0 la0 a1 4000 = y + (p : Int) - 1 := HU.out _ (HI.out _ (by omega) (by omega) (by
      have := q1 (p - 1) (by omega)
      rw [show y + ((p - 1 : Nat) : Int) = y + (p : Int) - 1 by omega] at this
      omega) (by
      rcases Nat.lt_or_ge p N with e | e
      · have := q2 e
        rw [show y + (p : Int) - 1 + 1 = y + (p : Int) by omega]
        exact .inr (by omega)
      · exact .inl (by omega)))
    exact ⟨congrArg (fun z => Ending.returned (.tuple #[.int .i64 z, .int .i64 0])) hb.symm, (by repeat (first | assumption | exact Below.refl _ _ | (refine Below.trans ?_ (b4.mono (by first | omega | (simp; done) | (simp; omega)))) | (refine Below.trans ?_ (d3.mono (by first | omega | (simp; done) | (simp; omega)))) | (refine Below.setCell ?_ (by first | omega | (simp; done) | (simp; omega)) _) | apply below_drewN | apply Below.drew | (refine Below.alloc ?_ (by first | omega | (simp; done) | (simp; omega)) _)))⟩
  · have e0 : r0_BestNorm xa0 a1 = 0 := by unfold r0_BestNorm; rw [hln, if_neg h]
    have e1 : r1_BestNorm xa0 a1 = dcode la0 xa0 (bnP a1) := by unfold r1_BestNorm; rw [hln]
    rw [e0, e1]
    have e2 := dcode_ne h
    obtain ⟨C, hC⟩ : ∃ C, dcode la0 xa0 (bnP a1) = C := ⟨_, rfl⟩
    rw [hC] at e2 ⊢
    have HC := Lib.hid hC
    clear e0 e1 h hC
    go_enter Try.func40, Try.ntmps40
    go_wp2_with (first | (go_at_call 52; refine (within_any _ _ _ _).mono ?_; rintro ew ww ⟨rfl, rfl⟩; rw [H2.out]) | (go_at_call 57; refine (dikeCode_t _ _ _ xa0 _ (bnP a1) _ ha0 ((RA.out.below (by repeat (first | assumption | exact Below.refl _ _ | (refine Below.setCell ?_ (by first | omega | (simp; done) | (simp; omega)) _) | apply below_drewN | apply Below.drew | (refine Below.alloc ?_ (by first | omega | (simp; done) | (simp; omega)) _)))).mono (by first | omega | (simp; done) | (simp; omega))) HB.out _ HC.out).mono ?_; rintro ed W2 ⟨rfl, b2⟩; have s2 : w.heap.size ≤ W2.heap.size := (by have := b2.size; (try simp at this); omega); have d2 : Below w.heap.size w W2 := (by repeat (first | assumption | exact Below.refl _ _ | (refine Below.trans ?_ (b2.mono (by first | omega | (simp; done) | (simp; omega)))) | (refine Below.setCell ?_ (by first | omega | (simp; done) | (simp; omega)) _) | apply below_drewN | apply Below.drew | (refine Below.alloc ?_ (by first | omega | (simp; done) | (simp; omega)) _)))))
    go_ret2
    exact ⟨rfl, (by repeat (first | assumption | exact Below.refl _ _ | (refine Below.trans ?_ (b2.mono (by first | omega | (simp; done) | (simp; omega)))) | (refine Below.setCell ?_ (by first | omega | (simp; done) | (simp; omega)) _) | apply below_drewN | apply Below.drew | (refine Below.alloc ?_ (by first | omega | (simp; done) | (simp; omega)) _)))⟩

set_option maxHeartbeats 1600000 in
theorem specC_BestNorm (a0 : Option Addr) (la0 ca0 : Nat) (xa0 : List RSection) (a1 : Int) (w : World) (ha0 : la0 ≤ 1048576) (ra0 : Rd_Section w w.heap.size a0 la0 xa0) (fa0 : Wf_Section xa0) (ha1 : (Lit.int .i64 a1).wf = true) :
    Calls Try.prog 39 #[.slice a0 la0 ca0, .int .i64 a1] w fun e w' => e = .returned (.tuple #[.int .i64 (r0_BestNorm xa0 a1), .int .i64 (r1_BestNorm xa0 a1)]) ∧ Below w.heap.size w w' := by
  have hln := ra0.len
  have RA := Lib.hid ra0
  clear ra0
  by_cases h : DkOk la0 xa0 ∧ bnP a1
  · have e0 : r0_BestNorm xa0 a1 = bestF xa0 la0 a1 4000 := by unfold r0_BestNorm; rw [hln, if_pos h]
    have e1 : r1_BestNorm xa0 a1 = 0 := by unfold r1_BestNorm; rw [hln]; exact dcode_ok h.1 h.2
    rw [e0, e1]
    have HV := Lib.hid h.1
    have h1 := h.1.2.1
    obtain ⟨g1, g2⟩ := h.2
    have hwl := wkF_lt xa0 la0 h1
    have hd := h.1.1 _ hwl
    have HZ := best_clay0 h.1
    have HU := Lib.hid (fun b (hb : IsBest xa0 la0 a1 b) => best_eq h.1 g1 hb)
    have HI := Lib.hid (show ∀ b, (xa0.getD (wkF xa0 la0) zSection).f1 ≤ b → b ≤ 2000 → clay xa0 la0 b ≤ a1 → (b = 2000 ∨ a1 < clay xa0 la0 (b + 1)) → IsBest xa0 la0 a1 b from fun b x1 x2 x3 x4 => ⟨x1, x2, x3, x4⟩)
    obtain ⟨ab, o, rfl, hbB, hc⟩ := RA.out.at (by omega)
    have q1 := (hc _ hwl).2
    obtain ⟨y, hy⟩ : ∃ y, y = (xa0.getD (wkF xa0 la0) zSection).f1 := ⟨_, rfl⟩
    rw [← hy] at hd HZ HI q1
    obtain ⟨_, _, y1, y2⟩ := hd
    have HZ := Lib.hid HZ
    have HW := Lib.hid (fun W (hW : Rd_Section W W.heap.size (some ⟨ab, o, none⟩) la0 xa0) => weakestS_t (some ⟨ab, o, none⟩) la0 ca0 xa0 W ha0 h1 hW)
    clear e0 e1 h hc hy
    generalize wkF xa0 la0 = m at *
    go_enter Try.func39, Try.ntmps39
    go_wp2_with (first | (go_at_call 50; refine (l07Ok_any _ _ _ xa0 _ ha0 RA.out true ⟨fun _ => HV.out, fun _ => rfl⟩).mono ?_; rintro eo wo ⟨rfl, rfl⟩) | (go_at_call 59; first | (refine (in_t _ _ _ _ (by omega)).mono ?_; rintro e w' ⟨rfl, rfl⟩) | (refine (in_f _ _ _ _ (by omega)).mono ?_; rintro e w' ⟨rfl, rfl⟩)) | (go_at_call 61; refine (HW.out _ RA.out).mono ?_; rintro e3 W3 ⟨rfl, b3⟩; have z1 : W3.cell? ⟨ab, o + m * 2 + 1, none⟩ = _ := (b3.cell (p := ⟨ab, o + m * 2 + 1, none⟩) hbB).trans q1))
    go_loopw [6, 7, 8] (fun lo hi _ wr => ∃ p q : Int, lo = .int .i64 p ∧ hi = .int .i64 q ∧ y ≤ p ∧ p < q ∧ q ≤ 2001 ∧ Below w.heap.size w wr ∧ Hid (clay xa0 la0 p ≤ a1 ∧ (q = 2001 ∨ a1 < clay xa0 la0 q))) (fun lo hi _ _ => (intOf hi - intOf lo).toNat)
    case atStart => exact ⟨y, 2001, rfl, rfl, by omega, by omega, by omega, (by repeat (first | assumption | exact Below.refl _ _ | (refine Below.trans ?_ (b3.mono (by first | omega | (simp; done) | (simp; omega)))) | (refine Below.setCell ?_ (by first | omega | (simp; done) | (simp; omega)) _) | apply below_drewN | apply Below.drew | (refine Below.alloc ?_ (by first | omega | (simp; done) | (simp; omega)) _))), ⟨by rw [HZ.out]; exact g1, .inl rfl⟩⟩
    case round =>
      obtain ⟨p, q, rfl, rfl, r1, r2, r3, hb, hr⟩ := hrel
      have hsz := hb.size
      have f0 := IntWalk.i64_in (q - p) (by omega)
      by_cases hlt : 1 < q - p
      · obtain ⟨t, ht⟩ : ∃ t, t = (p + q) / 2 := ⟨_, rfl⟩
        have t1 : p < t := by omega
        have t2 : t < q := by omega
        have HT := Lib.hid ht.symm
        have f1 := IntWalk.i64_in (p + q) (by omega)
        clear ht
        by_cases hg : clay xa0 la0 t ≤ a1
        · have HG := Lib.hid hg
          obtain ⟨K, hK⟩ : ∃ K, K = clay xa0 la0 t := ⟨_, rfl⟩
          rw [← hK] at hg
          have HK := Lib.hid hK.symm
          clear hK
          go_wp2_with (first | (go_at_call 71; refine (floorD_t _ t _ (by omega) (by omega) HT.out).mono ?_; rintro e w' ⟨rfl, rfl⟩) | (go_at_call 68; refine (clayS_t _ _ _ xa0 t _ ha0 ((RA.out.below hb).mono hsz) HV.out (by omega)).mono ?_; rintro e5 W5 ⟨rfl, b5⟩; rw [HK.out]))
          go_roundw
          case rel => exact ⟨t, q, rfl, rfl, by omega, t2, r3, (by repeat (first | assumption | exact Below.refl _ _ | (refine Below.trans ?_ (b5.mono (by first | omega | (simp; done) | (simp; omega)))) | (refine Below.trans ?_ (hb.mono (by first | omega | (simp; done) | (simp; omega)))) | (refine Below.setCell ?_ (by first | omega | (simp; done) | (simp; omega)) _) | apply below_drewN | apply Below.drew | (refine Below.alloc ?_ (by first | omega | (simp; done) | (simp; omega)) _))), ⟨HG.out, hr.out.2⟩⟩
          case measure => simp [intOf]; omega
        · have HG := Lib.hid hg
          obtain ⟨K, hK⟩ : ∃ K, K = clay xa0 la0 t := ⟨_, rfl⟩
          rw [← hK] at hg
          have HK := Lib.hid hK.symm
          clear hK
          go_wp2_with (first | (go_at_call 71; refine (floorD_t _ t _ (by omega) (by omega) HT.out).mono ?_; rintro e w' ⟨rfl, rfl⟩) | (go_at_call 68; refine (clayS_t _ _ _ xa0 t _ ha0 ((RA.out.below hb).mono hsz) HV.out (by omega)).mono ?_; rintro e5 W5 ⟨rfl, b5⟩; rw [HK.out]))
          go_roundw
          case rel => exact ⟨p, t, rfl, rfl, r1, t1, by omega, (by repeat (first | assumption | exact Below.refl _ _ | (refine Below.trans ?_ (b5.mono (by first | omega | (simp; done) | (simp; omega)))) | (refine Below.trans ?_ (hb.mono (by first | omega | (simp; done) | (simp; omega)))) | (refine Below.setCell ?_ (by first | omega | (simp; done) | (simp; omega)) _) | apply below_drewN | apply Below.drew | (refine Below.alloc ?_ (by first | omega | (simp; done) | (simp; omega)) _))), ⟨hr.out.1, .inr (by have := HG.out; omega)⟩⟩
          case measure => simp [intOf]; omega
      · obtain rfl : q = p + 1 := by omega
        have hbst := HU.out _ (HI.out p r1 (by omega) hr.out.1 (by rcases hr.out.2 with e | e; exact .inl (by omega); exact .inr e))
        have HQ := Lib.hid hbst
        clear hbst
        go_wp2
        go_ret2
        exact ⟨congrArg (fun z => Ending.returned (.tuple #[.int .i64 z, .int .i64 0])) HQ.out.symm, hb⟩
  · have e0 : r0_BestNorm xa0 a1 = 0 := by unfold r0_BestNorm; rw [hln, if_neg h]
    by_cases hv : DkOk la0 xa0
    · have e1 : r1_BestNorm xa0 a1 = 2 := by unfold r1_BestNorm; rw [hln]; exact dcode_no hv (fun p => h ⟨hv, p⟩)
      rw [e0, e1]
      have hn2 : a1 < 0 ∨ 1000000000 < a1 := by
        by_cases hy : 0 ≤ a1 ∧ a1 ≤ 1000000000
        · exact absurd ⟨hv, hy⟩ h
        · omega
      have HV := Lib.hid hv
      clear e0 e1 h hv
      go_enter Try.func39, Try.ntmps39
      go_wp2_with (first | (go_at_call 50; refine (l07Ok_any _ _ _ xa0 _ ha0 RA.out true ⟨fun _ => HV.out, fun _ => rfl⟩).mono ?_; rintro eo wo ⟨rfl, rfl⟩) | (go_at_call 59; first | (refine (in_t _ _ _ _ (by omega)).mono ?_; rintro e w' ⟨rfl, rfl⟩) | (refine (in_f _ _ _ _ (by omega)).mono ?_; rintro e w' ⟨rfl, rfl⟩)))
      go_ret2
      exact ⟨rfl, Below.refl _ _⟩
    · have e1 : r1_BestNorm xa0 a1 = 1 := by unfold r1_BestNorm; rw [hln]; exact dcode_bad hv
      rw [e0, e1]
      have HV := Lib.hid hv
      clear e0 e1 h hv
      go_enter Try.func39, Try.ntmps39
      go_wp2_with (first | (go_at_call 50; refine (l07Ok_any _ _ _ xa0 _ ha0 RA.out false ⟨fun h => by simp at h, fun h => absurd h HV.out⟩).mono ?_; rintro eo wo ⟨rfl, rfl⟩))
      go_ret2
      exact ⟨rfl, Below.refl _ _⟩

end Go.Proofs.Ytagnhlcgfcppjaa
