import Derived.Test.YtagnhlcgfcppjaaDikeR
import Derived.Test.YtagnhlcgfcppjaaCloneR
import Derived.StillTailTactics
namespace Go.Proofs.Ytagnhlcgfcppjaa
open Go.RowKit

def r0_RaiseDike (xa0 : List RSection) (a1 : Int) : List RSection := if DkOk xa0.length xa0 ∧ dlv a1 then rsL a1 xa0 else []
def r1_RaiseDike (xa0 : List RSection) (a1 : Int) : Int := if DkOk xa0.length xa0 ∧ dlv a1 then clay xa0 xa0.length a1 else 0
def r2_RaiseDike (xa0 : List RSection) (a1 : Int) : Int := dcode xa0.length xa0 (dlv a1)
theorem len_r0_RaiseDike (xa0 : List RSection) (a1 : Int) : (r0_RaiseDike xa0 a1).length ≤ 1048576 := by
  unfold r0_RaiseDike
  split
  · rename_i h
    have := h.1.2.2
    rw [rsL_len]
    omega
  · simp
theorem half_ofS {w : World} {lo b o n : Nat} {xs : List RSection} (h : Wr_Section w lo (some ⟨b, o, none⟩) n xs) (f : Nat → RSection) : HalfR encSection 2 n b o f (fun j => xs.getD j zSection) 0 w := by
  have hl := h.len
  intro j hj i hi
  obtain ⟨b', o', e, _, _, hc⟩ := h.2 (by omega)
  injection e with e
  injection e with e1 e2
  subst e1
  subst e2
  show _ = (encSection (if j < 0 then f j else xs.getD j zSection))[i]? ∧ _
  rw [if_neg (Nat.not_lt_zero j), getDSection (by omega), ← flat_at encSection_len xs j i (by omega) hi]
  have := hc (j * 2 + i) (by rw [csSection_len]; omega)
  rw [← Nat.add_assoc] at this
  exact this

set_option maxRecDepth 100000 in
set_option maxHeartbeats 3200000 in
theorem specC_RaiseDike (a0 : Option Addr) (la0 ca0 : Nat) (xa0 : List RSection) (a1 : Int) (w : World) (ha0 : la0 ≤ 1048576) (ra0 : Rd_Section w w.heap.size a0 la0 xa0) (fa0 : Wf_Section xa0) (ha1 : (Lit.int .i64 a1).wf = true) :
    Calls Try.prog 36 #[.slice a0 la0 ca0, .int .i64 a1] w fun e w' => ∃ B0 dB0, e = .returned (.tuple #[.slice B0 (r0_RaiseDike xa0 a1).length dB0, .int .i64 (r1_RaiseDike xa0 a1), .int .i64 (r2_RaiseDike xa0 a1)]) ∧ Below w.heap.size w w' ∧ Wr_Section w' w.heap.size B0 (r0_RaiseDike xa0 a1).length (r0_RaiseDike xa0 a1) := by
  have hln := ra0.len
  have RA := Lib.hid ra0
  clear ra0
  by_cases h : DkOk la0 xa0 ∧ dlv a1
  · have e0 : r0_RaiseDike xa0 a1 = rsL a1 xa0 := by unfold r0_RaiseDike; rw [hln, if_pos h]
    have e1 : r1_RaiseDike xa0 a1 = clay xa0 la0 a1 := by unfold r1_RaiseDike; rw [hln, if_pos h]
    have e3 : r2_RaiseDike xa0 a1 = 0 := by unfold r2_RaiseDike; rw [hln]; exact dcode_ok h.1 h.2
    rw [e0, e1, e3, rsL_len, hln]
    have HV := Lib.hid h.1
    have HC := Lib.hid (dcode_ok h.1 h.2)
    have h30 := h.1.2.2
    have h1 := h.1.2.1
    have hl := h.2
    unfold dlv at hl
    have HL := Lib.hid (show -2000 ≤ a1 ∧ a1 ≤ 2001 by omega)
    clear e0 e1 e3 h hl
    go_enter Try.func36, Try.ntmps36
    go_wp2_with (first | (go_at_call 63; refine (l07Code_t _ _ _ xa0 _ _ ha0 RA.out _ HC.out).mono ?_; rintro eo wo ⟨rfl, rfl⟩) | (at_builtin; refine wplAppSection rfl _ _ rfl _ w.heap.size 0 la0 ca0 w.heap.size _ _ [] xa0 rfl (ownsR_made rfl (Nat.le_refl _)) rfl (RA.out.below ((Below.refl _ _).alloc (Nat.le_refl _) _)) (by omega) (by simp) ?_; intro v1 w1 hown1 hb1 hz1))
    have d1 : Below w.heap.size w w1 := (by repeat (first | assumption | exact Below.refl _ _ | (refine Below.trans ?_ (hb1.mono (by first | omega | (simp; done) | (simp; omega)))) | (refine Below.setCell ?_ (by first | omega | (simp; done) | (simp; omega)) _) | apply below_drewN | apply Below.drew | (refine Below.alloc ?_ (by first | omega | (simp; done) | (simp; omega)) _)))
    rw [Nat.zero_add, List.nil_append] at hown1
    obtain ⟨g, cap, rfl, hg0, hg1, hcap⟩ := own_form' hown1 (by omega)
    obtain ⟨A', c', eA, hw⟩ := own_wrSection hown1
    injection eA with eA _ eC
    subst eA
    subst eC
    have HH := Lib.hid (half_ofS hw (fun j => ⟨(xa0.getD j zSection).f0, max a1 (xa0.getD j zSection).f1⟩))
    clear hw hown1
    go_loopw [9] (fun i wr => ∃ q : Nat, q ≤ la0 ∧ i = .int .i64 (q : Int) ∧ Below w.heap.size w wr ∧ g < wr.heap.size ∧ HalfR encSection 2 la0 g 0 (fun j => ⟨(xa0.getD j zSection).f0, max a1 (xa0.getD j zSection).f1⟩) (fun j => xa0.getD j zSection) q wr) (fun i _ => la0 - (intOf i).toNat)
    case atStart => exact ⟨0, by omega, rfl, d1, hg1, HH.out⟩
    case round =>
      obtain ⟨q, hq, rfl, hb, hz, hr⟩ := hrel
      by_cases hlt : q < la0
      · obtain ⟨ab, o, rfl, hbB, hc⟩ := (RA.out.below hb).at (by omega)
        have p := hc q hlt
        clear hc
        obtain ⟨m0, n0⟩ := hr q hlt 0 (by omega)
        obtain ⟨m1, n1⟩ := hr q hlt 1 (by omega)
        rw [if_neg (Nat.lt_irrefl q)] at m0 m1
        simp only [encSection, Nat.zero_add, Nat.add_zero] at m0 n0 m1 n1
        have HR := Lib.hid hr
        obtain ⟨x, hx⟩ := getZs xa0 q
        rw [← hx] at p m0 m1
        have HX := Lib.hid hx
        clear hx hr
        obtain ⟨x0, x1⟩ := x
        obtain ⟨p0, p1⟩ := p
        simp only at p0 p1 m0 m1
        go_wp2_with fail
        go_still_tail 16, (by kernel_rfl)
        still_call ((maxD_t _ _ _).mono fun _ _ h => ⟨h.1, h.2.symm⟩)
        repeat still_step
        refine wpStill_nil ?_
        change wpList _ _ _ _ _ wr.drew
        go_wp2
        go_roundw
        case rel => exact ⟨q + 1, by omega, by go_num, (by repeat (first | assumption | exact Below.refl _ _ | (refine Below.setCell ?_ (by first | omega | (simp; done) | (simp; omega)) _) | apply below_drewN | apply Below.drew | (refine Below.alloc ?_ (by first | omega | (simp; done) | (simp; omega)) _))), by simpa [World.setCell] using hz, by
          have h2 := HR.out.step encSection_len hlt _ (show [Value.int .i64 x0, .int .i64 (max a1 x1)] = encSection ⟨(xa0.getD q zSection).f0, max a1 (xa0.getD q zSection).f1⟩ by rw [← HX.out]; rfl)
          simp only [Nat.zero_add] at h2
          exact h2⟩
        case measure => simp [intOf]; omega
      · obtain rfl : q = la0 := by omega
        go_wp2_with (first | (go_at_call 68; refine (clayS_t _ _ _ xa0 _ _ ha0 ((RA.out.below hb).mono (by have := hb.size; omega)) HV.out HL.out).mono ?_; rintro e5 W5 ⟨rfl, b5⟩))
        go_ret3
        have hw2 : Wr_Section wr w.heap.size (some ⟨g, 0, none⟩) q (rsL a1 xa0) := hr.done encSection_len (by rw [rsL_len, hln]) (fun j hj => by rw [rsL_len] at hj; rw [← getDSection (by rw [rsL_len]; exact hj), rsL_at hj]) hg0 hz
        exact ⟨_, _, rfl, (by repeat (first | assumption | exact Below.refl _ _ | (refine Below.trans ?_ (b5.mono (by first | omega | (simp; done) | (simp; omega)))) | (refine Below.trans ?_ (hb.mono (by first | omega | (simp; done) | (simp; omega)))) | (refine Below.setCell ?_ (by first | omega | (simp; done) | (simp; omega)) _) | apply below_drewN | apply Below.drew | (refine Below.alloc ?_ (by first | omega | (simp; done) | (simp; omega)) _))), hw2.below b5⟩
  · have e0 : r0_RaiseDike xa0 a1 = [] := by unfold r0_RaiseDike; rw [hln, if_neg h]
    have e1 : r1_RaiseDike xa0 a1 = 0 := by unfold r1_RaiseDike; rw [hln, if_neg h]
    have e3 : r2_RaiseDike xa0 a1 = dcode la0 xa0 (dlv a1) := by unfold r2_RaiseDike; rw [hln]
    rw [e0, e1, e3]
    have e2 := dcode_ne h
    obtain ⟨C, hC⟩ : ∃ C, dcode la0 xa0 (dlv a1) = C := ⟨_, rfl⟩
    rw [hC] at e2 ⊢
    have HC := Lib.hid hC
    clear e0 e1 e3 h hC
    go_enter Try.func36, Try.ntmps36
    go_wp2_with (first | (go_at_call 63; refine (l07Code_t _ _ _ xa0 _ _ ha0 RA.out _ HC.out).mono ?_; rintro eo wo ⟨rfl, rfl⟩))
    go_ret3
    exact ⟨none, 0, rfl, Below.refl _ _, rfl, fun h => absurd h (by simp)⟩

set_option maxRecDepth 100000 in
set_option maxHeartbeats 3200000 in
theorem implC_RaiseDike (a0 : Option Addr) (la0 ca0 : Nat) (xa0 : List RSection) (a1 : Int) (w : World) (ha0 : la0 ≤ 1048576) (ra0 : Rd_Section w w.heap.size a0 la0 xa0) (fa0 : Wf_Section xa0) (ha1 : (Lit.int .i64 a1).wf = true) :
    Calls Try.prog 37 #[.slice a0 la0 ca0, .int .i64 a1] w fun e w' => ∃ B0 dB0, e = .returned (.tuple #[.slice B0 (r0_RaiseDike xa0 a1).length dB0, .int .i64 (r1_RaiseDike xa0 a1), .int .i64 (r2_RaiseDike xa0 a1)]) ∧ Below w.heap.size w w' ∧ Wr_Section w' w.heap.size B0 (r0_RaiseDike xa0 a1).length (r0_RaiseDike xa0 a1) := by
  have hln := ra0.len
  have RA := Lib.hid ra0
  clear ra0
  by_cases h : DkOk la0 xa0 ∧ dlv a1
  · have e0 : r0_RaiseDike xa0 a1 = rsL a1 xa0 := by unfold r0_RaiseDike; rw [hln, if_pos h]
    have e1 : r1_RaiseDike xa0 a1 = clay xa0 la0 a1 := by unfold r1_RaiseDike; rw [hln, if_pos h]
    have e3 : r2_RaiseDike xa0 a1 = 0 := by unfold r2_RaiseDike; rw [hln]; exact dcode_ok h.1 h.2
    rw [e0, e1, e3, rsL_len, hln]
    have HV := Lib.hid h.1
    have HC := Lib.hid (dcode_ok h.1 h.2)
    have h30 := h.1.2.2
    have h1 := h.1.2.1
    have hl := h.2
    unfold dlv at hl
    have HL := Lib.hid (show -2000 ≤ a1 ∧ a1 ≤ 2001 by omega)
    have HE := Lib.hid (rsA_end a1 hln)
    have hll := lwN_len xa0 a1 la0
    have HM := Lib.hid (fun i (hi : i < (lwN xa0 a1 la0).length) => lwN_at hi)
    obtain ⟨ab, o, rfl, hbB, hc⟩ := RA.out.at (by omega)
    clear e0 e1 e3 h hl hc
    go_enter Try.func37, Try.ntmps37
    go_wp2_with (first | (go_at_call 64; refine (dlI_any _ _).mono ?_; rintro el wl ⟨rfl, rfl⟩) | (go_at_call 57; refine (dikeCode_t _ _ _ xa0 _ (dlv a1) _ ha0 ((RA.out.below (by repeat (first | assumption | exact Below.refl _ _ | (refine Below.setCell ?_ (by first | omega | (simp; done) | (simp; omega)) _) | apply below_drewN | apply Below.drew | (refine Below.alloc ?_ (by first | omega | (simp; done) | (simp; omega)) _)))).mono (by first | omega | (simp; done) | (simp; omega))) (fun _ => rfl) _ HC.out).mono ?_; rintro ed W2 ⟨rfl, b2⟩; have s2 : w.heap.size ≤ W2.heap.size := (by have := b2.size; (try simp at this); omega); have d2 : Below w.heap.size w W2 := (by repeat (first | assumption | exact Below.refl _ _ | (refine Below.trans ?_ (b2.mono (by first | omega | (simp; done) | (simp; omega)))) | (refine Below.setCell ?_ (by first | omega | (simp; done) | (simp; omega)) _) | apply below_drewN | apply Below.drew | (refine Below.alloc ?_ (by first | omega | (simp; done) | (simp; omega)) _)))) | (go_at_call 69; refine (cloneS_t _ _ _ xa0 _ ha0 ((RA.out.below d2).mono (by first | omega | (simp; done) | (simp; omega)))).mono ?_; rintro e3 W3 ⟨v3, rfl, b3, hown⟩; have s3 := b3.size; have d3 : Below w.heap.size w W3 := (by repeat (first | assumption | exact Below.refl _ _ | (refine Below.trans ?_ (b3.mono (by first | omega | (simp; done) | (simp; omega)))) | (refine Below.trans ?_ (d2.mono (by first | omega | (simp; done) | (simp; omega)))) | (refine Below.setCell ?_ (by first | omega | (simp; done) | (simp; omega)) _) | apply below_drewN | apply Below.drew | (refine Below.alloc ?_ (by first | omega | (simp; done) | (simp; omega)) _))); have hw3 := own_monoR hown s2; clear hown) | (go_at_call 66; refine (lowerThan_t _ _ _ xa0 _ _ ha0 ((RA.out.below d3).mono (by first | omega | (simp; done) | (simp; omega))) (by omega)).mono ?_; rintro e4 W4 ⟨LB, ld, rfl, b4, x4⟩; have s4 := b4.size; have d4 : Below w.heap.size w W4 := (by repeat (first | assumption | exact Below.refl _ _ | (refine Below.trans ?_ (b4.mono (by first | omega | (simp; done) | (simp; omega)))) | (refine Below.trans ?_ (d3.mono (by first | omega | (simp; done) | (simp; omega)))) | (refine Below.setCell ?_ (by first | omega | (simp; done) | (simp; omega)) _) | apply below_drewN | apply Below.drew | (refine Below.alloc ?_ (by first | omega | (simp; done) | (simp; omega)) _))); have XR := Lib.hid x4))
    obtain ⟨g, cap, rfl, hg0, hg1, hcap⟩ := own_form' hw3 (by omega)
    obtain ⟨A', c', eA, hw⟩ := own_wrSection hw3
    injection eA with eA _ eC
    subst eA
    subst eC
    have hw4 := hw.below b4
    have hne : 0 < (lwN xa0 a1 la0).length → ablk LB ≠ some g := x4.far (by omega)
    clear hw hw3 x4
    generalize lwN xa0 a1 la0 = L at *
    go_loopw [10, 24] (fun _ i wr => ∃ k : Nat, k ≤ L.length ∧ i = .int .i64 (k : Int) ∧ W4.grownBy wr (some g) ∧ Wr_Section wr w.heap.size (some ⟨g, 0, none⟩) la0 (rsA xa0 L a1 k)) (fun _ i _ => L.length - (intOf i).toNat)
    case atStart => exact ⟨0, by omega, rfl, World.grownBy.refl _ _, hw4⟩
    case round =>
      obtain ⟨k, hk, rfl, hg, hwr⟩ := hrel
      by_cases hlt : k < L.length
      · obtain ⟨q, q1, q2, q3⟩ := HM.out k hlt
        obtain ⟨lb, lo, rfl, hlB, hlc⟩ := (Rd.grown XR.out.rd (Nat.le_refl _) hg hne).2 (by omega)
        have c1 := hlc k hlt
        clear hlc
        rw [q2] at c1
        obtain ⟨m1, n1⟩ := WrC.at (j := q * 2 + 1) hwr h1 (by rw [csSection_len, rsA_len]; omega)
        obtain ⟨u, hu⟩ : ∃ u, (csSection (rsA xa0 L a1 k))[q * 2 + 1]? = some u := ⟨_, List.getElem?_eq_getElem (by rw [csSection_len, rsA_len]; omega)⟩
        rw [hu] at m1
        simp only [Nat.zero_add] at m1 n1
        have HS := Lib.hid (show rsA xa0 L a1 (k + 1) = (rsA xa0 L a1 k).set q ⟨((rsA xa0 L a1 k).getD q zSection).f0, a1⟩ by simp only [rsA]; rw [q2, Int.toNat_natCast])
        have HW := Lib.hid hwr
        clear q2 q3 hwr hu
        go_wp2
        go_roundw
        case rel => exact ⟨k + 1, by omega, by go_num, hg.trans (gb_setCell _ ⟨g, q * 2 + 1, none⟩ _), by
          have h2 := HW.out.put1 q1 a1
          simp only [Nat.zero_add] at h2
          rw [HS.out]; exact h2⟩
        case measure => simp [intOf]; omega
      · obtain rfl : k = L.length := by omega
        rw [HE.out] at hwr
        have hgb : Below w.heap.size W4 wr := gb_below (A := some ⟨g, 0, none⟩) hg (by omega) (fun b hb => by simp [ablk] at hb; omega)
        have d5 : Below w.heap.size w wr := d4.trans hgb
        have s5 := hg.size
        go_wp2_with (first | (go_at_call 70; refine (volumeI_t _ _ _ xa0 _ _ ha0 ((RA.out.below d5).mono (by omega)) HV.out HL.out).mono ?_; rintro e6 W6 ⟨rfl, b6⟩))
        go_ret3
        exact ⟨_, _, rfl, (by repeat (first | assumption | exact Below.refl _ _ | (refine Below.trans ?_ (b6.mono (by first | omega | (simp; done) | (simp; omega)))) | (refine Below.trans ?_ (d5.mono (by first | omega | (simp; done) | (simp; omega)))) | (refine Below.setCell ?_ (by first | omega | (simp; done) | (simp; omega)) _) | apply below_drewN | apply Below.drew | (refine Below.alloc ?_ (by first | omega | (simp; done) | (simp; omega)) _))), hwr.below b6⟩
  · have e0 : r0_RaiseDike xa0 a1 = [] := by unfold r0_RaiseDike; rw [hln, if_neg h]
    have e1 : r1_RaiseDike xa0 a1 = 0 := by unfold r1_RaiseDike; rw [hln, if_neg h]
    have e3 : r2_RaiseDike xa0 a1 = dcode la0 xa0 (dlv a1) := by unfold r2_RaiseDike; rw [hln]
    rw [e0, e1, e3]
    have e2 := dcode_ne h
    obtain ⟨C, hC⟩ : ∃ C, dcode la0 xa0 (dlv a1) = C := ⟨_, rfl⟩
    rw [hC] at e2 ⊢
    have HC := Lib.hid hC
    clear e0 e1 e3 h hC
    go_enter Try.func37, Try.ntmps37
    go_wp2_with (first | (go_at_call 64; refine (dlI_any _ _).mono ?_; rintro el wl ⟨rfl, rfl⟩) | (go_at_call 57; refine (dikeCode_t _ _ _ xa0 _ (dlv a1) _ ha0 ((RA.out.below (by repeat (first | assumption | exact Below.refl _ _ | (refine Below.setCell ?_ (by first | omega | (simp; done) | (simp; omega)) _) | apply below_drewN | apply Below.drew | (refine Below.alloc ?_ (by first | omega | (simp; done) | (simp; omega)) _)))).mono (by first | omega | (simp; done) | (simp; omega))) (fun _ => rfl) _ HC.out).mono ?_; rintro ed W2 ⟨rfl, b2⟩; have s2 : w.heap.size ≤ W2.heap.size := (by have := b2.size; (try simp at this); omega); have d2 : Below w.heap.size w W2 := (by repeat (first | assumption | exact Below.refl _ _ | (refine Below.trans ?_ (b2.mono (by first | omega | (simp; done) | (simp; omega)))) | (refine Below.setCell ?_ (by first | omega | (simp; done) | (simp; omega)) _) | apply below_drewN | apply Below.drew | (refine Below.alloc ?_ (by first | omega | (simp; done) | (simp; omega)) _)))))
    go_ret3
    exact ⟨none, 0, rfl, (by repeat (first | assumption | exact Below.refl _ _ | (refine Below.trans ?_ (b2.mono (by first | omega | (simp; done) | (simp; omega)))) | (refine Below.setCell ?_ (by first | omega | (simp; done) | (simp; omega)) _) | apply below_drewN | apply Below.drew | (refine Below.alloc ?_ (by first | omega | (simp; done) | (simp; omega)) _))), rfl, fun h => absurd h (by simp)⟩

end Go.Proofs.Ytagnhlcgfcppjaa
