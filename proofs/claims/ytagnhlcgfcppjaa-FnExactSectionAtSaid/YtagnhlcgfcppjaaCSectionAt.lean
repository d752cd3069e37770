import Derived.Test.YtagnhlcgfcppjaaPlaceW
namespace Go.Proofs.Ytagnhlcgfcppjaa
open Go.RowKit

def secP (xs : List RSection) (m : Int) : Prop := 0 ≤ m ∧ m ≤ lenN xs xs.length - 1
instance (xs : List RSection) (m : Int) : Decidable (secP xs m) := by unfold secP; exact inferInstance
def r0_SectionAt (xa0 : List RSection) (a1 : Int) : Int := if DkOk xa0.length xa0 ∧ secP xa0 a1 then ((secF xa0 a1 xa0.length : Nat) : Int) else 0
def r1_SectionAt (xa0 : List RSection) (a1 : Int) : Int := dcode xa0.length xa0 (secP xa0 a1)

set_option maxHeartbeats 1600000 in
theorem specC_SectionAt (a0 : Option Addr) (la0 ca0 : Nat) (xa0 : List RSection) (a1 : Int) (w : World) (ha0 : la0 ≤ 1048576) (ra0 : Rd_Section w w.heap.size a0 la0 xa0) (fa0 : Wf_Section xa0) (ha1 : (Lit.int .i64 a1).wf = true) :
    Calls Try.prog 22 #[.slice a0 la0 ca0, .int .i64 a1] w fun e w' => e = .returned (.tuple #[.int .i64 (r0_SectionAt xa0 a1), .int .i64 (r1_SectionAt xa0 a1)]) ∧ Below w.heap.size w w' := by
  have hln := ra0.len
  have RA := Lib.hid ra0
  clear ra0
  by_cases h : DkOk la0 xa0 ∧ secP xa0 a1
  · have e0 : r0_SectionAt xa0 a1 = ((secF xa0 a1 la0 : Nat) : Int) := by unfold r0_SectionAt; rw [hln, if_pos h]
    have e1 : r1_SectionAt xa0 a1 = 0 := by unfold r1_SectionAt; rw [hln]; exact dcode_ok h.1 h.2
    rw [e0, e1]
    have HV := Lib.hid h.1
    have h30 := h.1.2.2
    obtain ⟨h2, h3⟩ := h.2
    rw [hln] at h3
    have HK := Lib.hid (secF_is (n := la0) h.1 h2 (by omega))
    obtain ⟨g1, g2⟩ := lenN_bd h.1 la0 (Nat.le_refl _)
    obtain ⟨L, hL⟩ : ∃ L, L = lenN xa0 la0 := ⟨_, rfl⟩
    rw [← hL] at h3 g1 g2
    have HL := Lib.hid hL.symm
    obtain ⟨ix, hix⟩ : ∃ ix, ix = secF xa0 a1 la0 := ⟨_, rfl⟩
    rw [← hix] at HK ⊢
    clear e0 e1 h hL hix
    go_enter Try.func22, Try.ntmps22
    go_wp2_with (first | (go_at_call 50; refine (l07Ok_any _ _ _ xa0 _ ha0 RA.out true ⟨fun _ => HV.out, fun _ => rfl⟩).mono ?_; rintro eo wo ⟨rfl, rfl⟩) | (go_at_call 56; refine (lengthS_t _ _ _ xa0 _ ha0 RA.out HV.out).mono ?_; rintro e3 w3 ⟨rfl, rfl⟩; rw [HL.out]) | (go_at_call 59; first | (refine (in_t _ _ _ _ (by omega)).mono ?_; rintro e w' ⟨rfl, rfl⟩) | (refine (in_f _ _ _ _ (by omega)).mono ?_; rintro e w' ⟨rfl, rfl⟩)))
    go_loop [1, 6] (fun m i => ∃ k : Nat, k < la0 ∧ i = .int .i64 (k : Int) ∧ m = .int .i64 (a1 - lenN xa0 k) ∧ Hid (lenN xa0 k ≤ a1)) (fun _ i => la0 - (intOf i).toNat)
    case atStart => exact ⟨0, by have := HV.out.2.1; omega, rfl, by simp [lenN], by simp [lenN]; exact h2⟩
    case round =>
      obtain ⟨k, hk, rfl, rfl, hr⟩ := hrel
      obtain ⟨ab, o, rfl, hbB, hc⟩ := RA.out.at (by omega)
      have p := hc k hk
      clear hc
      have HS := Lib.hid (show lenN xa0 (k + 1) = lenN xa0 k + (xa0.getD k zSection).f0 from rfl)
      obtain ⟨u1, u2⟩ := lenN_bd HV.out k (by omega)
      have hd := HV.out.1 k hk
      have hrr := hr.out
      obtain ⟨x, hx⟩ := getZs xa0 k
      rw [← hx] at p HS hd
      clear hx
      obtain ⟨x0, x1⟩ := x
      obtain ⟨p0, p1⟩ := p
      obtain ⟨d0, d1, _, _⟩ := hd
      simp only at p0 p1 HS d0 d1
      obtain ⟨s, hs⟩ : ∃ s, s = lenN xa0 k := ⟨_, rfl⟩
      rw [← hs] at u1 u2 HS hrr ⊢
      have HH := Lib.hid hs
      clear hs hr
      have f1 := IntWalk.i64_in (a1 - s - x0) (by omega)
      by_cases hg : x0 ≤ a1 - s
      · have HM := Lib.hid (show k + 1 < la0 by
          rcases Nat.lt_or_ge (k + 1) la0 with c | c
          · exact c
          · have e2 : k + 1 = la0 := by omega
            have := HS.out
            rw [e2, HL.out] at this
            omega)
        go_wp2
        go_round
        case rel => exact ⟨k + 1, HM.out, by go_num, by rw [HS.out, show a1 - (s + x0) = a1 - s - x0 by omega], (show lenN xa0 (k + 1) ≤ a1 by rw [HS.out]; omega)⟩
        case measure => simp [intOf]; omega
      · obtain rfl : ix = k := IsSec.uniq HV.out HK.out ⟨hk, by rw [← HH.out]; exact hrr, by rw [HS.out]; omega⟩
        go_wp2
        go_ret2
        exact ⟨rfl, Below.refl _ _⟩
  · have e0 : r0_SectionAt xa0 a1 = 0 := by unfold r0_SectionAt; rw [hln, if_neg h]
    by_cases hv : DkOk la0 xa0
    · have e1 : r1_SectionAt xa0 a1 = 2 := by unfold r1_SectionAt; rw [hln]; exact dcode_no hv (fun p => h ⟨hv, p⟩)
      rw [e0, e1]
      have hn2 : a1 < 0 ∨ lenN xa0 la0 - 1 < a1 := by
        by_cases hy : 0 ≤ a1 ∧ a1 ≤ lenN xa0 la0 - 1
        · exact absurd ⟨hv, hy.1, by rw [hln]; exact hy.2⟩ h
        · omega
      have HV := Lib.hid hv
      have h30 := hv.2.2
      obtain ⟨g1, g2⟩ := lenN_bd hv la0 (Nat.le_refl _)
      obtain ⟨L, hL⟩ : ∃ L, L = lenN xa0 la0 := ⟨_, rfl⟩
      rw [← hL] at hn2 g1 g2
      have HL := Lib.hid hL.symm
      clear e0 e1 h hL hv
      go_enter Try.func22, Try.ntmps22
      go_wp2_with (first | (go_at_call 50; refine (l07Ok_any _ _ _ xa0 _ ha0 RA.out true ⟨fun _ => HV.out, fun _ => rfl⟩).mono ?_; rintro eo wo ⟨rfl, rfl⟩) | (go_at_call 56; refine (lengthS_t _ _ _ xa0 _ ha0 RA.out HV.out).mono ?_; rintro e3 w3 ⟨rfl, rfl⟩; rw [HL.out]) | (go_at_call 59; first | (refine (in_t _ _ _ _ (by omega)).mono ?_; rintro e w' ⟨rfl, rfl⟩) | (refine (in_f _ _ _ _ (by omega)).mono ?_; rintro e w' ⟨rfl, rfl⟩)))
      go_ret2
      exact ⟨rfl, Below.refl _ _⟩
    · have e1 : r1_SectionAt xa0 a1 = 1 := by unfold r1_SectionAt; rw [hln]; exact dcode_bad hv
      rw [e0, e1]
      have HV := Lib.hid hv
      clear e0 e1 h hv
      go_enter Try.func22, Try.ntmps22
      go_wp2_with (first | (go_at_call 50; refine (l07Ok_any _ _ _ xa0 _ ha0 RA.out false ⟨fun h => by simp at h, fun h => absurd h HV.out⟩).mono ?_; rintro eo wo ⟨rfl, rfl⟩))
      go_ret2
      exact ⟨rfl, Below.refl _ _⟩

theorem sec_dec {n : Nat} {xs : List RSection} (hl : xs.length = n) (m : Int) (h : DkOk n xs) : decide (0 ≤ m ∧ m ≤ wrap64 (lnW xs n - 1)) = decide (secP xs m) := by
  have b := lenN_bd h n (Nat.le_refl _)
  have := h.2.2
  rw [lnW_ok h n (Nat.le_refl _), IntWalk.wrap64_in _ (by omega)]
  subst hl
  rfl

set_option maxHeartbeats 1600000 in
theorem implC_SectionAt (a0 : Option Addr) (la0 ca0 : Nat) (xa0 : List RSection) (a1 : Int) (w : World) (ha0 : la0 ≤ 1048576) (ra0 : Rd_Section w w.heap.size a0 la0 xa0) (fa0 : Wf_Section xa0) (ha1 : (Lit.int .i64 a1).wf = true) :
    Calls Try.prog 23 #[.slice a0 la0 ca0, .int .i64 a1] w fun e w' => e = .returned (.tuple #[.int .i64 (r0_SectionAt xa0 a1), .int .i64 (r1_SectionAt xa0 a1)]) ∧ Below w.heap.size w w' := by
  have hln := ra0.len
  have RA := Lib.hid ra0
  clear ra0
  obtain ⟨v, hv2⟩ : ∃ v, decide (0 ≤ a1 ∧ a1 ≤ wrap64 (lnW xa0 la0 - 1)) = v := ⟨_, rfl⟩
  have HB := Lib.hid (fun (h : DkOk la0 xa0) => hv2.symm.trans (sec_dec hln a1 h))
  have H2 := Lib.hid hv2
  clear hv2
  by_cases h : DkOk la0 xa0 ∧ secP xa0 a1
  · have e0 : r0_SectionAt xa0 a1 = ((secF xa0 a1 la0 : Nat) : Int) := by unfold r0_SectionAt; rw [hln, if_pos h]
    have e1 : r1_SectionAt xa0 a1 = 0 := by unfold r1_SectionAt; rw [hln]; exact dcode_ok h.1 h.2
    rw [e0, e1]
    have HV := Lib.hid h.1
    have HC := Lib.hid (dcode_ok h.1 h.2)
    obtain ⟨h2, h3⟩ := h.2
    have HN := Lib.hid (show a1 < lenN xa0 la0 by rw [hln] at h3; omega)
    clear e0 e1 h h3
    go_enter Try.func23, Try.ntmps23
    go_wp2_with (first | (go_at_call 58; refine (lengthI_t _ _ _ xa0 _ ha0 ((RA.out.below (by repeat (first | assumption | exact Below.refl _ _ | (refine Below.setCell ?_ (by first | omega | (simp; done) | (simp; omega)) _) | apply below_drewN | apply Below.drew | (refine Below.alloc ?_ (by first | omega | (simp; done) | (simp; omega)) _)))).mono (by first | omega | (simp; done) | (simp; omega)))).mono ?_; rintro e3 W3 ⟨rfl, b3⟩; have s3 : w.heap.size ≤ W3.heap.size := (by have := b3.size; (try simp at this); omega)) | (go_at_call 52; refine (within_any _ _ _ _).mono ?_; rintro ew ww ⟨rfl, rfl⟩; rw [H2.out]) | (go_at_call 57; refine (dikeCode_t _ _ _ xa0 _ (secP xa0 a1) _ ha0 ((RA.out.below (by repeat (first | assumption | exact Below.refl _ _ | (refine Below.trans ?_ (b3.mono (by first | omega | (simp; done) | (simp; omega)))) | (refine Below.setCell ?_ (by first | omega | (simp; done) | (simp; omega)) _) | apply below_drewN | apply Below.drew | (refine Below.alloc ?_ (by first | omega | (simp; done) | (simp; omega)) _)))).mono (by first | omega | (simp; done) | (simp; omega))) HB.out _ HC.out).mono ?_; rintro ed W2 ⟨rfl, b2⟩; have s2 : w.heap.size ≤ W2.heap.size := (by have := b2.size; (try simp at this); omega); have d2 : Below w.heap.size w W2 := (by repeat (first | assumption | exact Below.refl _ _ | (refine Below.trans ?_ (b2.mono (by first | omega | (simp; done) | (simp; omega)))) | (refine Below.trans ?_ (b3.mono (by first | omega | (simp; done) | (simp; omega)))) | (refine Below.setCell ?_ (by first | omega | (simp; done) | (simp; omega)) _) | apply below_drewN | apply Below.drew | (refine Below.alloc ?_ (by first | omega | (simp; done) | (simp; omega)) _)))) | (go_at_call 60; refine (placeWith_t _ _ _ xa0 a1 _ ha0 ((RA.out.below d2).mono (by first | omega | (simp; done) | (simp; omega))) HV.out h2 HN.out _ rfl).mono ?_; rintro e4 W4 ⟨rfl, b4⟩; have s4 := b4.size))
    go_ret2
    exact ⟨rfl, (by repeat (first | assumption | exact Below.refl _ _ | (refine Below.trans ?_ (b4.mono (by first | omega | (simp; done) | (simp; omega)))) | (refine Below.trans ?_ (b2.mono (by first | omega | (simp; done) | (simp; omega)))) | (refine Below.trans ?_ (b3.mono (by first | omega | (simp; done) | (simp; omega)))) | (refine Below.setCell ?_ (by first | omega | (simp; done) | (simp; omega)) _) | apply below_drewN | apply Below.drew | (refine Below.alloc ?_ (by first | omega | (simp; done) | (simp; omega)) _)))⟩
  · have e0 : r0_SectionAt xa0 a1 = 0 := by unfold r0_SectionAt; rw [hln, if_neg h]
    have e1 : r1_SectionAt xa0 a1 = dcode la0 xa0 (secP xa0 a1) := by unfold r1_SectionAt; rw [hln]
    rw [e0, e1]
    have e2 := dcode_ne h
    obtain ⟨C, hC⟩ : ∃ C, dcode la0 xa0 (secP xa0 a1) = C := ⟨_, rfl⟩
    rw [hC] at e2 ⊢
    have HC := Lib.hid hC
    clear e0 e1 h hC
    go_enter Try.func23, Try.ntmps23
    go_wp2_with (first | (go_at_call 58; refine (lengthI_t _ _ _ xa0 _ ha0 ((RA.out.below (by repeat (first | assumption | exact Below.refl _ _ | (refine Below.setCell ?_ (by first | omega | (simp; done) | (simp; omega)) _) | apply below_drewN | apply Below.drew | (refine Below.alloc ?_ (by first | omega | (simp; done) | (simp; omega)) _)))).mono (by first | omega | (simp; done) | (simp; omega)))).mono ?_; rintro e3 W3 ⟨rfl, b3⟩; have s3 : w.heap.size ≤ W3.heap.size := (by have := b3.size; (try simp at this); omega)) | (go_at_call 52; refine (within_any _ _ _ _).mono ?_; rintro ew ww ⟨rfl, rfl⟩; rw [H2.out]) | (go_at_call 57; refine (dikeCode_t _ _ _ xa0 _ (secP xa0 a1) _ ha0 ((RA.out.below (by repeat (first | assumption | exact Below.refl _ _ | (refine Below.trans ?_ (b3.mono (by first | omega | (simp; done) | (simp; omega)))) | (refine Below.setCell ?_ (by first | omega | (simp; done) | (simp; omega)) _) | apply below_drewN | apply Below.drew | (refine Below.alloc ?_ (by first | omega | (simp; done) | (simp; omega)) _)))).mono (by first | omega | (simp; done) | (simp; omega))) HB.out _ HC.out).mono ?_; rintro ed W2 ⟨rfl, b2⟩; have s2 : w.heap.size ≤ W2.heap.size := (by have := b2.size; (try simp at this); omega); have d2 : Below w.heap.size w W2 := (by repeat (first | assumption | exact Below.refl _ _ | (refine Below.trans ?_ (b2.mono (by first | omega | (simp; done) | (simp; omega)))) | (refine Below.trans ?_ (b3.mono (by first | omega | (simp; done) | (simp; omega)))) | (refine Below.setCell ?_ (by first | omega | (simp; done) | (simp; omega)) _) | apply below_drewN | apply Below.drew | (refine Below.alloc ?_ (by first | omega | (simp; done) | (simp; omega)) _)))))
    go_ret2
    exact ⟨rfl, (by repeat (first | assumption | exact Below.refl _ _ | (refine Below.trans ?_ (b2.mono (by first | omega | (simp; done) | (simp; omega)))) | (refine Below.trans ?_ (b3.mono (by first | omega | (simp; done) | (simp; omega)))) | (refine Below.setCell ?_ (by first | omega | (simp; done) | (simp; omega)) _) | apply below_drewN | apply Below.drew | (refine Below.alloc ?_ (by first | omega | (simp; done) | (simp; omega)) _)))⟩

end Go.Proofs.Ytagnhlcgfcppjaa
