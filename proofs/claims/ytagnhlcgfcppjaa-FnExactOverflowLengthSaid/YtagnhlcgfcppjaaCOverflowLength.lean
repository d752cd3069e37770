import Derived.Test.YtagnhlcgfcppjaaDikeR
namespace Go.Proofs.Ytagnhlcgfcppjaa
open Go.RowKit

def r0_OverflowLength (xa0 : List RSection) (a1 : Int) : Int := if DkOk xa0.length xa0 ∧ dlv a1 then ovN xa0 a1 xa0.length else 0
def r1_OverflowLength (xa0 : List RSection) (a1 : Int) : Int := dcode xa0.length xa0 (dlv a1)
theorem ovN_yes {xs : List RSection} {y : Int} {k : Nat} (h : (xs.getD k zSection).f1 < y) : ovN xs y (k + 1) = ovN xs y k + (xs.getD k zSection).f0 := by simp only [ovN]; rw [if_pos h]
theorem ovN_no {xs : List RSection} {y : Int} {k : Nat} (h : ¬ (xs.getD k zSection).f1 < y) : ovN xs y (k + 1) = ovN xs y k := by simp only [ovN]; rw [if_neg h, Int.add_zero]

set_option maxHeartbeats 1600000 in
theorem specC_OverflowLength (a0 : Option Addr) (la0 ca0 : Nat) (xa0 : List RSection) (a1 : Int) (w : World) (ha0 : la0 ≤ 1048576) (ra0 : Rd_Section w w.heap.size a0 la0 xa0) (fa0 : Wf_Section xa0) (ha1 : (Lit.int .i64 a1).wf = true) :
    Calls Try.prog 34 #[.slice a0 la0 ca0, .int .i64 a1] w fun e w' => e = .returned (.tuple #[.int .i64 (r0_OverflowLength xa0 a1), .int .i64 (r1_OverflowLength xa0 a1)]) ∧ Below w.heap.size w w' := by
  have hln := ra0.len
  have RA := Lib.hid ra0
  clear ra0
  by_cases h : DkOk la0 xa0 ∧ dlv a1
  · have e0 : r0_OverflowLength xa0 a1 = ovN xa0 a1 la0 := by unfold r0_OverflowLength; rw [hln, if_pos h]
    have e1 : r1_OverflowLength xa0 a1 = 0 := by unfold r1_OverflowLength; rw [hln]; exact dcode_ok h.1 h.2
    rw [e0, e1]
    have HV := Lib.hid h.1
    have HC := Lib.hid (dcode_ok h.1 h.2)
    have h30 := h.1.2.2
    have HB := Lib.hid (fun k hk => ovN_bd h.1 a1 k hk)
    clear e0 e1 h
    go_enter Try.func34, Try.ntmps34
    go_wp2_with (first | (go_at_call 63; refine (l07Code_t _ _ _ xa0 _ _ ha0 RA.out _ HC.out).mono ?_; rintro eo wo ⟨rfl, rfl⟩))
    go_loop [7, 8] (fun s i => ∃ k : Nat, k ≤ la0 ∧ i = .int .i64 (k : Int) ∧ s = .int .i64 (ovN xa0 a1 k)) (fun _ i => la0 - (intOf i).toNat)
    case atStart => exact ⟨0, by omega, rfl, rfl⟩
    case round =>
      obtain ⟨k, hk, rfl, rfl⟩ := hrel
      obtain ⟨u1, u2⟩ := HB.out k hk
      by_cases hlt : k < la0
      · obtain ⟨ab, o, rfl, hbB, hc⟩ := RA.out.at (by omega)
        have p := hc k hlt
        clear hc
        have hd := HV.out.1 k hlt
        by_cases hg : (xa0.getD k zSection).f1 < a1
        · have HS := Lib.hid (ovN_yes hg)
          generalize ovN xa0 a1 k = s at u1 u2 HS ⊢
          generalize xa0.getD k zSection = x at *
          obtain ⟨x0, x1⟩ := x
          obtain ⟨p0, p1⟩ := p
          obtain ⟨d0, d1, _, _⟩ := hd
          simp only at p0 p1 hg d0 d1 HS
          go_wp2
          go_round
          case rel => exact ⟨k + 1, by omega, by go_num, by rw [HS.out]⟩
          case measure => simp [intOf]; omega
        · have HS := Lib.hid (ovN_no hg)
          generalize ovN xa0 a1 k = s at u1 u2 HS ⊢
          generalize xa0.getD k zSection = x at *
          obtain ⟨x0, x1⟩ := x
          obtain ⟨p0, p1⟩ := p
          simp only at p0 p1 hg HS
          go_wp2
          go_round
          case rel => exact ⟨k + 1, by omega, by go_num, by rw [HS.out]⟩
          case measure => simp [intOf]; omega
      · obtain rfl : k = la0 := by omega
        go_wp2
        go_ret2
        exact ⟨rfl, Below.refl _ _⟩
  · have e0 : r0_OverflowLength xa0 a1 = 0 := by unfold r0_OverflowLength; rw [hln, if_neg h]
    have e1 : r1_OverflowLength xa0 a1 = dcode la0 xa0 (dlv a1) := by unfold r1_OverflowLength; rw [hln]
    rw [e0, e1]
    have e2 := dcode_ne h
    obtain ⟨C, hC⟩ : ∃ C, dcode la0 xa0 (dlv a1) = C := ⟨_, rfl⟩
    rw [hC] at e2 ⊢
    have HC := Lib.hid hC
    clear e0 e1 h hC
    go_enter Try.func34, Try.ntmps34
    go_wp2_with (first | (go_at_call 63; refine (l07Code_t _ _ _ xa0 _ _ ha0 RA.out _ HC.out).mono ?_; rintro eo wo ⟨rfl, rfl⟩))
    go_ret2
    exact ⟨rfl, Below.refl _ _⟩

set_option maxHeartbeats 1600000 in
theorem implC_OverflowLength (a0 : Option Addr) (la0 ca0 : Nat) (xa0 : List RSection) (a1 : Int) (w : World) (ha0 : la0 ≤ 1048576) (ra0 : Rd_Section w w.heap.size a0 la0 xa0) (fa0 : Wf_Section xa0) (ha1 : (Lit.int .i64 a1).wf = true) :
    Calls Try.prog 35 #[.slice a0 la0 ca0, .int .i64 a1] w fun e w' => e = .returned (.tuple #[.int .i64 (r0_OverflowLength xa0 a1), .int .i64 (r1_OverflowLength xa0 a1)]) ∧ Below w.heap.size w w' := by
  have hln := ra0.len
  have RA := Lib.hid ra0
  clear ra0
  by_cases h : DkOk la0 xa0 ∧ dlv a1
  · have e0 : r0_OverflowLength xa0 a1 = ovN xa0 a1 la0 := by unfold r0_OverflowLength; rw [hln, if_pos h]
    have e1 : r1_OverflowLength xa0 a1 = 0 := by unfold r1_OverflowLength; rw [hln]; exact dcode_ok h.1 h.2
    rw [e0, e1]
    have HV := Lib.hid h.1
    have HC := Lib.hid (dcode_ok h.1 h.2)
    have h30 := h.1.2.2
    have HE := Lib.hid (lw_sum xa0 a1 la0)
    have hll := lwN_len xa0 a1 la0
    have HM := Lib.hid (fun i (hi : i < (lwN xa0 a1 la0).length) => lwN_at hi)
    have HB := Lib.hid (fun i => lnOf_bd h.1 ((lwN xa0 a1 la0).take i) (fun x hx => by obtain ⟨q, h1, h2, _⟩ := lwN_mem.1 (List.mem_of_mem_take hx); exact ⟨q, h1, h2⟩))
    have HT := Lib.hid (fun i (hi : i < (lwN xa0 a1 la0).length) => lnOf_step xa0 (lwN xa0 a1 la0) hi)
    clear e0 e1 h
    go_enter Try.func35, Try.ntmps35
    go_wp2_with (first | (go_at_call 64; refine (dlI_any _ _).mono ?_; rintro el wl ⟨rfl, rfl⟩) | (go_at_call 57; refine (dikeCode_t _ _ _ xa0 _ (dlv a1) _ ha0 ((RA.out.below (by repeat (first | assumption | exact Below.refl _ _ | (refine Below.setCell ?_ (by first | omega | (simp; done) | (simp; omega)) _) | apply below_drewN | apply Below.drew | (refine Below.alloc ?_ (by first | omega | (simp; done) | (simp; omega)) _)))).mono (by first | omega | (simp; done) | (simp; omega))) (fun _ => rfl) _ HC.out).mono ?_; rintro ed W2 ⟨rfl, b2⟩; have s2 : w.heap.size ≤ W2.heap.size := (by have := b2.size; (try simp at this); omega); have d2 : Below w.heap.size w W2 := (by repeat (first | assumption | exact Below.refl _ _ | (refine Below.trans ?_ (b2.mono (by first | omega | (simp; done) | (simp; omega)))) | (refine Below.setCell ?_ (by first | omega | (simp; done) | (simp; omega)) _) | apply below_drewN | apply Below.drew | (refine Below.alloc ?_ (by first | omega | (simp; done) | (simp; omega)) _)))) | (go_at_call 66; refine (lowerThan_t _ _ _ xa0 _ _ ha0 ((RA.out.below d2).mono (by first | omega | (simp; done) | (simp; omega))) (by omega)).mono ?_; rintro e3 W3 ⟨LB, ld, rfl, b3, x3⟩; have s3 := b3.size; have d3 : Below w.heap.size w W3 := (by repeat (first | assumption | exact Below.refl _ _ | (refine Below.trans ?_ (b3.mono (by first | omega | (simp; done) | (simp; omega)))) | (refine Below.trans ?_ (d2.mono (by first | omega | (simp; done) | (simp; omega)))) | (refine Below.setCell ?_ (by first | omega | (simp; done) | (simp; omega)) _) | apply below_drewN | apply Below.drew | (refine Below.alloc ?_ (by first | omega | (simp; done) | (simp; omega)) _))); have XR := Lib.hid x3.rd; clear x3))
    generalize lwN xa0 a1 la0 = L at *
    go_loop [7, 9, 21] (fun s _ i => ∃ k : Nat, k ≤ L.length ∧ i = .int .i64 (k : Int) ∧ s = .int .i64 (lnOf xa0 (L.take k))) (fun _ _ i => L.length - (intOf i).toNat)
    case atStart => exact ⟨0, by omega, rfl, by simp [lnOf]⟩
    case round =>
      obtain ⟨k, hk, rfl, rfl⟩ := hrel
      obtain ⟨u1, u2⟩ := HB.out k
      rw [List.length_take] at u2
      by_cases hlt : k < L.length
      · obtain ⟨q, q1, q2, q3⟩ := HM.out k hlt
        obtain ⟨ab, o, rfl, hbB, hc⟩ := (RA.out.below d3).at (by omega)
        have p := hc q q1
        clear hc
        obtain ⟨lb, lo, rfl, hlB, hlc⟩ := XR.out.2 (by omega)
        have c1 := hlc k hlt
        clear hlc
        rw [q2] at c1
        have hd := HV.out.1 q q1
        have HS := Lib.hid (show lnOf xa0 (L.take (k + 1)) = lnOf xa0 (L.take k) + (xa0.getD q zSection).f0 by rw [HT.out k hlt, q2, Int.toNat_natCast])
        clear q2 q3
        generalize lnOf xa0 (L.take k) = s at u1 u2 HS ⊢
        generalize xa0.getD q zSection = x at *
        obtain ⟨x0, x1⟩ := x
        obtain ⟨p0, p1⟩ := p
        obtain ⟨d0, d1, _, _⟩ := hd
        simp only at p0 p1 d0 d1 HS
        go_wp2
        go_round
        case rel => exact ⟨k + 1, by omega, by go_num, by rw [HS.out]⟩
        case measure => simp [intOf]; omega
      · obtain rfl : k = L.length := by omega
        go_wp2
        go_ret2
        exact ⟨congrArg (fun z => Ending.returned (.tuple #[.int .i64 z, .int .i64 0])) HE.out, d3⟩
  · have e0 : r0_OverflowLength xa0 a1 = 0 := by unfold r0_OverflowLength; rw [hln, if_neg h]
    have e1 : r1_OverflowLength xa0 a1 = dcode la0 xa0 (dlv a1) := by unfold r1_OverflowLength; rw [hln]
    rw [e0, e1]
    have e2 := dcode_ne h
    obtain ⟨C, hC⟩ : ∃ C, dcode la0 xa0 (dlv a1) = C := ⟨_, rfl⟩
    rw [hC] at e2 ⊢
    have HC := Lib.hid hC
    clear e0 e1 h hC
    go_enter Try.func35, Try.ntmps35
    go_wp2_with (first | (go_at_call 64; refine (dlI_any _ _).mono ?_; rintro el wl ⟨rfl, rfl⟩) | (go_at_call 57; refine (dikeCode_t _ _ _ xa0 _ (dlv a1) _ ha0 ((RA.out.below (by repeat (first | assumption | exact Below.refl _ _ | (refine Below.setCell ?_ (by first | omega | (simp; done) | (simp; omega)) _) | apply below_drewN | apply Below.drew | (refine Below.alloc ?_ (by first | omega | (simp; done) | (simp; omega)) _)))).mono (by first | omega | (simp; done) | (simp; omega))) (fun _ => rfl) _ HC.out).mono ?_; rintro ed W2 ⟨rfl, b2⟩; have s2 : w.heap.size ≤ W2.heap.size := (by have := b2.size; (try simp at this); omega); have d2 : Below w.heap.size w W2 := (by repeat (first | assumption | exact Below.refl _ _ | (refine Below.trans ?_ (b2.mono (by first | omega | (simp; done) | (simp; omega)))) | (refine Below.setCell ?_ (by first | omega | (simp; done) | (simp; omega)) _) | apply below_drewN | apply Below.drew | (refine Below.alloc ?_ (by first | omega | (simp; done) | (simp; omega)) _)))))
    go_ret2
    exact ⟨rfl, (by repeat (first | assumption | exact Below.refl _ _ | (refine Below.trans ?_ (b2.mono (by first | omega | (simp; done) | (simp; omega)))) | (refine Below.setCell ?_ (by first | omega | (simp; done) | (simp; omega)) _) | apply below_drewN | apply Below.drew | (refine Below.alloc ?_ (by first | omega | (simp; done) | (simp; omega)) _)))⟩

end Go.Proofs.Ytagnhlcgfcppjaa
