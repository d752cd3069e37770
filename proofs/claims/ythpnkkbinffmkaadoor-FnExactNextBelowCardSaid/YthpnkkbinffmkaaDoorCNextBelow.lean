import Derived.Test.YthpnkkbinffmkaaDoorCMinutesBelow
import Derived.Test.YthpnkkbinffmkaaDoorSent3
namespace Go.Proofs.YthpnkkbinffmkaaDoor
open Go.RowKit

/- caps: (ka0 : la0 ≤ ca0) · sentinels: (hsent : Sent w B se0 se1 se2) -/

def nbP (L : List RSpell) (m : Int) : Nat := L.findIdx (fun s => decide (m ≤ s.f1))
def nbR (L : List RSpell) (m : Int) : Int := if nbP L m < L.length then max (L.getD (nbP L m) zSpell).f0 m else 0
def nbC (L : List RSpell) (m : Int) : Int := if nbP L m < L.length then 0 else 3
theorem nb_le {L : List RSpell} {m : Int} {p : Nat} (h : nbP L m = p) : p ≤ L.length := h ▸ List.findIdx_le_length
theorem nb_low (L : List RSpell) (m : Int) (p : Nat) (h : nbP L m = p) : ∀ k, k < p → ¬ m ≤ (L.getD k zSpell).f1 := by
  intro k hk
  have hl : k < L.length := Nat.lt_of_lt_of_le hk (nb_le h)
  have := List.not_of_lt_findIdx (p := fun s : RSpell => decide (m ≤ s.f1)) (xs := L) (show k < L.findIdx (fun s : RSpell => decide (m ≤ s.f1)) from by unfold nbP at h; omega)
  rw [List.getD_eq_getElem?_getD, List.getElem?_eq_getElem hl, Option.getD_some]
  simpa using this
theorem nb_hi (L : List RSpell) (m : Int) (p : Nat) (h : nbP L m = p) : p < L.length → m ≤ (L.getD p zSpell).f1 := by
  intro hl
  subst h
  have := List.findIdx_getElem (p := fun s : RSpell => decide (m ≤ s.f1)) (xs := L) (w := hl)
  rw [List.getD_eq_getElem?_getD, List.getElem?_eq_getElem hl, Option.getD_some]
  exact of_decide_eq_true this
theorem nb_yes {L : List RSpell} {m : Int} {p : Nat} (h : nbP L m = p) (hl : p < L.length) : nbR L m = max (L.getD p zSpell).f0 m ∧ nbC L m = 0 := by
  subst h
  exact ⟨if_pos hl, if_pos hl⟩
theorem nb_no {L : List RSpell} {m : Int} {p : Nat} (h : nbP L m = p) (hl : ¬ p < L.length) : nbR L m = 0 ∧ nbC L m = 3 := by
  subst h
  exact ⟨if_neg hl, if_neg hl⟩

def r0_NextBelow (xa0 : List RTide) (a1 a2 : Int) : Int := if TdOk xa0.length xa0 ∧ lvok a1 ∧ inT xa0.length xa0 a2 then nbR (spN xa0 a1 (xa0.length - 1)) a2 else 0
def r1_NextBelow (xa0 : List RTide) (a1 a2 : Int) : Int := if TdOk xa0.length xa0 ∧ lvok a1 ∧ inT xa0.length xa0 a2 then nbC (spN xa0 a1 (xa0.length - 1)) a2 else tcode xa0.length xa0 (lvok a1 ∧ inT xa0.length xa0 a2)

set_option maxRecDepth 100000 in
set_option maxHeartbeats 3200000 in
theorem specC_NextBelow (a0 : Option Addr) (la0 ca0 : Nat) (xa0 : List RTide) (a1 : Int) (a2 : Int) (w : World) (ha0 : la0 ≤ 1048576) (ra0 : Rd_Tide w w.heap.size a0 la0 xa0) (fa0 : Wf_Tide xa0) (ha1 : (Lit.int .i64 a1).wf = true) (ha2 : (Lit.int .i64 a2).wf = true) (ka0 : la0 ≤ ca0) :
    Calls Tryd.prog 8 #[.slice a0 la0 ca0, .int .i64 a1, .int .i64 a2] w fun e w' => e = .returned (.tuple #[.int .i64 (r0_NextBelow xa0 a1 a2), .int .i64 (r1_NextBelow xa0 a1 a2)]) ∧ Below w.heap.size w w' := by
  have hln := ra0.len
  have RA := Lib.hid ra0
  clear ra0 fa0 ha1 ha2 ka0
  by_cases h : TdOk la0 xa0 ∧ lvok a1 ∧ inT la0 xa0 a2
  · obtain ⟨N, hN⟩ : ∃ N, N = la0 - 1 := ⟨_, rfl⟩
    obtain ⟨L, hL⟩ : ∃ L, spN xa0 a1 N = L := ⟨_, rfl⟩
    have e0 : r0_NextBelow xa0 a1 a2 = nbR L a2 := by unfold r0_NextBelow; rw [hln, if_pos h, ← hN, hL]
    have e1 : r1_NextBelow xa0 a1 a2 = nbC L a2 := by unfold r1_NextBelow; rw [hln, if_pos h, ← hN, hL]
    rw [e0, e1]
    obtain ⟨p, hp⟩ : ∃ p, nbP L a2 = p := ⟨_, rfl⟩
    have HQ := Lib.hid (nb_low L a2 p hp)
    have hpl : p ≤ L.length := nb_le hp
    have HHI := Lib.hid (nb_hi L a2 p hp)
    have hN1 : N + 1 = la0 := by have := h.1.2.1; omega
    have HV := Lib.hid h.1
    have HY := Lib.hid h.2.1
    have HIN := Lib.hid (sp_in h.1 a1 N (by omega))
    have HLEN := Lib.hid (show (spN xa0 a1 N).length ≤ 40 by have := spN_len xa0 a1 N; have := h.1.2.2; omega)
    rw [hL] at HIN HLEN
    have hll : L.length ≤ 40 := HLEN.out
    have HC1 := Lib.hid (tcode_ok h.1 h.2.1)
    have HC2 := Lib.hid (tcode_ok h.1 h.2.2)
    have HL := Lib.hid hL
    have HNB := Lib.hid hp
    generalize hR : nbR L a2 = r at *
    generalize hE : nbC L a2 = ec at *
    have HR := Lib.hid hR
    have HE := Lib.hid hE
    clear e0 e1 h hN hL hR hE hp
    go_enter Tryd.func8, Tryd.ntmps8
    go_wp2_with (first | (go_at_call 24; refine (l08Level_t _ _ _ xa0 _ _ ha0 RA.out _ HC1.out).mono ?_; rintro e1 W1 ⟨rfl, b1⟩; have s1 := b1.size) | (go_at_call 25; refine (l08Code_t _ _ _ xa0 _ _ ha0 (RA.out.below' b1) _ HC2.out).mono ?_; rintro e2 W2 ⟨rfl, b2⟩; have s2 : w.heap.size ≤ W2.heap.size := Nat.le_trans s1 b2.size; have d2 : Below w.heap.size w W2 := b1.trans (b2.mono s1); clear b2) | (go_at_call 26; refine (l08Spells_t _ _ _ xa0 _ _ ha0 (RA.out.below' d2) HV.out HY.out N hN1).mono ?_; rintro e3 W3 ⟨B, d, rfl, b3, hw⟩; rw [HL.out] at hw ⊢; have HRW := Lib.hid hw.rd; have s3 := b3.size; have d3 : Below w.heap.size w W3 := d2.trans (b3.mono s2); clear hw))
    go_loopw [10] (fun i wr => ∃ k : Nat, k ≤ p ∧ i = .int .i64 (k : Int) ∧ Below W3.heap.size W3 wr) (fun i _ => L.length - (intOf i).toNat)
    case atStart => exact ⟨0, by omega, rfl, Below.refl _ _⟩
    case round =>
      obtain ⟨k, hk, rfl, hb⟩ := hrel
      have hsz := hb.size
      by_cases hlt : k < p
      · have hkl : k < L.length := by omega
        obtain ⟨sb, so, rfl, hsb, hc⟩ := (HRW.out.below hb).at (by omega)
        have q := hc k hkl
        have hlo := HQ.out k hlt
        clear hc
        obtain ⟨x, hx⟩ : ∃ x, x = L.getD k zSpell := ⟨_, rfl⟩
        rw [← hx] at q hlo
        clear hx
        obtain ⟨z0, z1⟩ := x
        obtain ⟨q0, q1⟩ := q
        simp only at q0 q1 hlo
        have hsw : sb < wr.heap.size := by omega
        have ne1 : ¬ sb = wr.heap.size := by omega
        go_wp2
        go_roundw
        case rel => exact ⟨k + 1, by omega, by go_num, (by repeat (first | assumption | exact Below.refl _ _ | (refine Below.setCell ?_ (by first | omega | (simp; done) | (simp; omega)) _) | apply below_drewN | apply Below.drew | (refine Below.alloc ?_ (by first | omega | (simp; done) | (simp; omega)) _)))⟩
        case measure => simp [intOf]; omega
      · obtain rfl : k = p := by omega
        by_cases hkl : k < L.length
        · have hr := (nb_yes HNB.out hkl).1
          have he := (nb_yes HNB.out hkl).2
          rw [HR.out] at hr
          rw [HE.out] at he
          subst he
          obtain ⟨sb, so, rfl, hsb, hc⟩ := (HRW.out.below hb).at (by omega)
          have q := hc k hkl
          have hhi := HHI.out hkl
          clear hc
          obtain ⟨x, hx⟩ : ∃ x, x = L.getD k zSpell := ⟨_, rfl⟩
          rw [← hx] at q hhi hr
          clear hx
          obtain ⟨z0, z1⟩ := x
          obtain ⟨q0, q1⟩ := q
          simp only at q0 q1 hhi hr
          have hsw : sb < wr.heap.size := by omega
          have ne1 : ¬ sb = wr.heap.size := by omega
          have HMX := Lib.hid (show max a2 z0 = r by rw [hr]; exact Int.max_comm _ _)
          clear hr
          go_wp2_with (go_at_call 27; refine (maxT_t _ _ _ _ HMX.out).mono ?_; rintro e8 W8 ⟨rfl, rfl⟩)
          go_ret2
          exact ⟨rfl, d3.trans (hb.mono (by omega))⟩
        · have hr := (nb_no HNB.out hkl).1
          have he := (nb_no HNB.out hkl).2
          rw [HR.out] at hr
          rw [HE.out] at he
          subst hr
          subst he
          go_wp2
          go_ret2
          exact ⟨rfl, d3.trans (hb.mono (by omega))⟩
  · have e0 : r0_NextBelow xa0 a1 a2 = 0 := by unfold r0_NextBelow; rw [hln, if_neg h]
    have e1 : r1_NextBelow xa0 a1 a2 = tcode la0 xa0 (lvok a1 ∧ inT la0 xa0 a2) := by unfold r1_NextBelow; rw [hln, if_neg h]
    rw [e0, e1]
    by_cases h1 : TdOk la0 xa0 ∧ lvok a1
    · have hi : ¬ inT la0 xa0 a2 := fun g => h ⟨h1.1, h1.2, g⟩
      rw [tcode_no h1.1 (fun g : lvok a1 ∧ inT la0 xa0 a2 => hi g.2)]
      have HC1 := Lib.hid (tcode_ok h1.1 h1.2)
      have HC2 := Lib.hid (tcode_no h1.1 hi)
      clear e0 e1 h h1 hi
      go_enter Tryd.func8, Tryd.ntmps8
      go_wp2_with (first | (go_at_call 24; refine (l08Level_t _ _ _ xa0 _ _ ha0 RA.out _ HC1.out).mono ?_; rintro e1 W1 ⟨rfl, b1⟩; have s1 := b1.size) | (go_at_call 25; refine (l08Code_t _ _ _ xa0 _ _ ha0 (RA.out.below' b1) _ HC2.out).mono ?_; rintro e2 W2 ⟨rfl, b2⟩; have s2 : w.heap.size ≤ W2.heap.size := Nat.le_trans s1 b2.size; have d2 : Below w.heap.size w W2 := b1.trans (b2.mono s1); clear b2))
      go_ret2
      exact ⟨rfl, d2⟩
    · have e3 := tcode_ne h1
      have HCE := Lib.hid (show tcode la0 xa0 (lvok a1) = tcode la0 xa0 (lvok a1 ∧ inT la0 xa0 a2) by
        by_cases g : TdOk la0 xa0
        · rw [tcode_no g (fun q => h1 ⟨g, q⟩), tcode_no g (fun q => h1 ⟨g, q.1⟩)]
        · rw [tcode_bad g, tcode_bad g])
      rw [HCE.out] at e3
      obtain ⟨C, hC⟩ : ∃ C, tcode la0 xa0 (lvok a1 ∧ inT la0 xa0 a2) = C := ⟨_, rfl⟩
      rw [hC] at e3 ⊢
      have HC1 := Lib.hid (HCE.out.trans hC)
      clear e0 e1 h h1 hC HCE
      go_enter Tryd.func8, Tryd.ntmps8
      go_wp2_with (first | (go_at_call 24; refine (l08Level_t _ _ _ xa0 _ _ ha0 RA.out _ HC1.out).mono ?_; rintro e1 W1 ⟨rfl, b1⟩; have s1 := b1.size))
      go_ret2
      exact ⟨rfl, b1⟩

set_option maxRecDepth 100000 in
set_option maxHeartbeats 3200000 in
theorem nextBelow_any (A : Option Addr) (n c : Nat) (xs : List RTide) (y a2 : Int) (w : World) (se0 se1 se2 : Addr) (hs : Sent w w.heap.size se0 se1 se2) (hn : n ≤ 1048576) (ha : Rd_Tide w w.heap.size A n xs) (h : TdOk n xs) (hy : lvok y) (N : Nat) (hN1 : N + 1 = n) (L : List RSpell) (hL : spN xs y N = L) (p : Nat) (hp : nbP L a2 = p) (r : Int) (hr : nbR L a2 = r) :
    Calls Tryd.prog 32 #[.slice A n c, .int .i64 y, .int .i64 a2] w fun e w' => e = .returned (.tuple #[.int .i64 r, if p < L.length then .nilIface else .iface 122 (.pointer (some se2))]) ∧ Below w.heap.size w w' := by
  have HA := Lib.hid ha
  have HV := Lib.hid h
  have HY := Lib.hid hy
  have HSN := Lib.hid hs
  have HL := Lib.hid hL
  have HNB := Lib.hid hp
  have HR := Lib.hid hr
  have HQ := Lib.hid (nb_low L a2 p hp)
  have hpl : p ≤ L.length := nb_le hp
  have HHI := Lib.hid (nb_hi L a2 p hp)
  have HLEN := Lib.hid (show (spN xs y N).length ≤ 40 by have := spN_len xs y N; have := h.2.2; omega)
  rw [hL] at HLEN
  have hll : L.length ≤ 40 := HLEN.out
  clear ha h hy hs hL hp hr
  go_enter Tryd.func32, Tryd.ntmps32
  go_wp2_with (first | (go_at_call 45; refine (spellsBelow_t _ _ _ xs _ _ hn HA.out HV.out HY.out N hN1).mono ?_; rintro e3 W3 ⟨B, d, rfl, b3, hw⟩; rw [HL.out] at hw ⊢; have HRW := Lib.hid hw.rd; have s3 := b3.size; clear hw))
  go_loopw [9, 14] (fun _ i wr => ∃ k : Nat, k ≤ p ∧ i = .int .i64 (k : Int) ∧ Below W3.heap.size W3 wr) (fun _ i _ => L.length - (intOf i).toNat)
  case atStart => exact ⟨0, by omega, rfl, Below.refl _ _⟩
  case round =>
    obtain ⟨k, hk, rfl, hb⟩ := hrel
    have hsz := hb.size
    by_cases hlt : k < p
    · have hkl : k < L.length := by omega
      obtain ⟨sb, so, rfl, hsb, hc⟩ := (HRW.out.below hb).at (by omega)
      have q := hc k hkl
      have hlo := HQ.out k hlt
      clear hc
      obtain ⟨x, hx⟩ : ∃ x, x = L.getD k zSpell := ⟨_, rfl⟩
      rw [← hx] at q hlo
      clear hx
      obtain ⟨z0, z1⟩ := x
      obtain ⟨q0, q1⟩ := q
      simp only at q0 q1 hlo
      have hsw : sb < wr.heap.size := by omega
      have ne1 : ¬ sb = wr.heap.size := by omega
      go_wp2
      go_roundw
      case rel => exact ⟨k + 1, by omega, by go_num, (by repeat (first | assumption | exact Below.refl _ _ | (refine Below.setCell ?_ (by first | omega | (simp; done) | (simp; omega)) _) | apply below_drewN | apply Below.drew | (refine Below.alloc ?_ (by first | omega | (simp; done) | (simp; omega)) _)))⟩
      case measure => simp [intOf]; omega
    · obtain rfl : k = p := by omega
      by_cases hkl : k < L.length
      · have hr := (nb_yes HNB.out hkl).1
        rw [HR.out] at hr
        obtain ⟨sb, so, rfl, hsb, hc⟩ := (HRW.out.below hb).at (by omega)
        have q := hc k hkl
        have hhi := HHI.out hkl
        clear hc
        obtain ⟨x, hx⟩ : ∃ x, x = L.getD k zSpell := ⟨_, rfl⟩
        rw [← hx] at q hhi hr
        clear hx
        obtain ⟨z0, z1⟩ := x
        obtain ⟨q0, q1⟩ := q
        simp only at q0 q1 hhi hr
        have hsw : sb < wr.heap.size := by omega
        have ne1 : ¬ sb = wr.heap.size := by omega
        have HK := Lib.hid hkl
        by_cases hzm : z0 < a2
        · obtain rfl : r = a2 := by rw [hr]; exact Int.max_eq_right (by omega)
          clear hr
          go_wp2
          go_ret2
          exact ⟨by first | rfl | rw [if_pos HK.out] | simp [HK.out], b3.trans (hb.mono s3) |>.trans (by repeat (first | assumption | exact Below.refl _ _ | (refine Below.setCell ?_ (by first | omega | (simp; done) | (simp; omega)) _) | apply below_drewN | apply Below.drew | (refine Below.alloc ?_ (by first | omega | (simp; done) | (simp; omega)) _)))⟩
        · obtain rfl : r = z0 := by rw [hr]; exact Int.max_eq_left (by omega)
          clear hr
          go_wp2
          go_ret2
          exact ⟨by first | rfl | rw [if_pos HK.out] | simp [HK.out], b3.trans (hb.mono s3) |>.trans (by repeat (first | assumption | exact Below.refl _ _ | (refine Below.setCell ?_ (by first | omega | (simp; done) | (simp; omega)) _) | apply below_drewN | apply Below.drew | (refine Below.alloc ?_ (by first | omega | (simp; done) | (simp; omega)) _)))⟩
      · have hr := (nb_no HNB.out hkl).1
        rw [HR.out] at hr
        subst hr
        have HK := Lib.hid hkl
        have g2 := ((HSN.out.below b3).mono s3 |>.below hb).v2
        go_wp2
        go_quiet (fail)
        go_wp2
        go_ret2
        exact ⟨by first | rfl | rw [if_neg HK.out] | simp [HK.out], (b3.trans (hb.mono s3)).trans (by repeat (first | assumption | exact Below.refl _ _ | (refine Below.setCell ?_ (by first | omega | (simp; done) | (simp; omega)) _) | apply below_drewN | apply Below.drew | (refine Below.alloc ?_ (by first | omega | (simp; done) | (simp; omega)) _)))⟩

set_option maxRecDepth 100000 in
set_option maxHeartbeats 3200000 in
theorem implC_NextBelow (a0 : Option Addr) (la0 ca0 : Nat) (xa0 : List RTide) (a1 : Int) (a2 : Int) (w : World) (ha0 : la0 ≤ 1048576) (ra0 : Rd_Tide w w.heap.size a0 la0 xa0) (fa0 : Wf_Tide xa0) (ha1 : (Lit.int .i64 a1).wf = true) (ha2 : (Lit.int .i64 a2).wf = true) (ka0 : la0 ≤ ca0) (se0 se1 se2 : Addr) (hsent : Sent w w.heap.size se0 se1 se2) :
    Calls Tryd.prog 10 #[.slice a0 la0 ca0, .int .i64 a1, .int .i64 a2] w fun e w' => e = .returned (.tuple #[.int .i64 (r0_NextBelow xa0 a1 a2), .int .i64 (r1_NextBelow xa0 a1 a2)]) ∧ Below w.heap.size w w' := by
  have hln := ra0.len
  have RA := Lib.hid ra0
  have HSN := Lib.hid hsent
  clear ra0 fa0 ha1 ha2 hsent
  have HB := Lib.hid (fun (h : TdOk la0 xa0) => hasM_ok (m := a2) h)
  by_cases h : TdOk la0 xa0 ∧ lvok a1 ∧ inT la0 xa0 a2
  · obtain ⟨N, hN⟩ : ∃ N, N = la0 - 1 := ⟨_, rfl⟩
    obtain ⟨L, hL⟩ : ∃ L, spN xa0 a1 N = L := ⟨_, rfl⟩
    have e0 : r0_NextBelow xa0 a1 a2 = nbR L a2 := by unfold r0_NextBelow; rw [hln, if_pos h, ← hN, hL]
    have e1 : r1_NextBelow xa0 a1 a2 = nbC L a2 := by unfold r1_NextBelow; rw [hln, if_pos h, ← hN, hL]
    rw [e0, e1]
    obtain ⟨p, hp⟩ : ∃ p, nbP L a2 = p := ⟨_, rfl⟩
    have hN1 : N + 1 = la0 := by have := h.1.2.1; omega
    have HV := Lib.hid h.1
    have HY := Lib.hid h.2.1
    have HC := Lib.hid (tcode_ok h.1 h.2)
    have HBV := Lib.hid (show (fun _ : Unit => decide (lvok a1)) () = true from decide_eq_true h.2.1)
    have hbv : decide (lvok a1) = true := decide_eq_true h.2.1
    have HB2 := Lib.hid (fun (hh : TdOk la0 xa0) => show hasM la0 xa0 a2 = decide (lvok a1 ∧ inT la0 xa0 a2) from (HB.out hh).trans (by rw [decide_eq_true h.2.2, decide_eq_true h.2]))
    have HL := Lib.hid hL
    have HNB := Lib.hid hp
    by_cases hpp : p < L.length
    · obtain ⟨r, hr⟩ : ∃ r, nbR L a2 = r := ⟨_, rfl⟩
      rw [(nb_yes hp hpp).2, hr]
      have HR := Lib.hid hr
      clear e0 e1 h hN hL hp hr
      go_enter Tryd.func10, Tryd.ntmps10
      go_wp2_with (first | (go_at_call 30; refine (lvI_any _ _).mono ?_; rintro el wl ⟨rfl, rfl⟩; rw [hbv]) | (go_at_call 31; refine (hasMinute_t _ _ _ xa0 _ _ ha0 RA.out _ rfl).mono ?_; rintro e1 W1 ⟨rfl, b1⟩; have s1 := b1.size; have d1 : Below w.heap.size w W1 := b1; clear b1) | (go_at_call 29; refine (tidesCode_t _ _ _ xa0 _ (lvok a1 ∧ inT la0 xa0 a2) _ ha0 ka0 (RA.out.below' d1) HB2.out _ HC.out).mono ?_; rintro e2 W2 ⟨rfl, b2⟩; have s2 : w.heap.size ≤ W2.heap.size := Nat.le_trans s1 b2.size; have d2 : Below w.heap.size w W2 := d1.trans (b2.mono s1); clear b2) | (go_at_call 32; refine (nextBelow_any _ _ _ xa0 _ _ _ se0 se1 se2 ((HSN.out.below d2).mono s2) ha0 (RA.out.below' d2) HV.out HY.out N hN1 L HL.out p HNB.out _ HR.out).mono ?_; rintro e4 W4 ⟨rfl, b4⟩; have d4 : Below w.heap.size w W4 := d2.trans (b4.mono s2); rw [if_pos hpp]) | (go_at_call 33; refine (tideCode_nil se0 se1 se2 w.heap.size _ (HSN.out.below d4)).mono ?_; rintro e5 W5 ⟨rfl, rfl⟩))
      go_ret2
      exact ⟨rfl, d4⟩
    · rw [(nb_no hp hpp).1, (nb_no hp hpp).2]
      have HR := Lib.hid (nb_no hp hpp).1
      clear e0 e1 h hN hL hp
      go_enter Tryd.func10, Tryd.ntmps10
      go_wp2_with (first | (go_at_call 30; refine (lvI_any _ _).mono ?_; rintro el wl ⟨rfl, rfl⟩; rw [hbv]) | (go_at_call 31; refine (hasMinute_t _ _ _ xa0 _ _ ha0 RA.out _ rfl).mono ?_; rintro e1 W1 ⟨rfl, b1⟩; have s1 := b1.size; have d1 : Below w.heap.size w W1 := b1; clear b1) | (go_at_call 29; refine (tidesCode_t _ _ _ xa0 _ (lvok a1 ∧ inT la0 xa0 a2) _ ha0 ka0 (RA.out.below' d1) HB2.out _ HC.out).mono ?_; rintro e2 W2 ⟨rfl, b2⟩; have s2 : w.heap.size ≤ W2.heap.size := Nat.le_trans s1 b2.size; have d2 : Below w.heap.size w W2 := d1.trans (b2.mono s1); clear b2) | (go_at_call 32; refine (nextBelow_any _ _ _ xa0 _ _ _ se0 se1 se2 ((HSN.out.below d2).mono s2) ha0 (RA.out.below' d2) HV.out HY.out N hN1 L HL.out p HNB.out _ HR.out).mono ?_; rintro e4 W4 ⟨rfl, b4⟩; have d4 : Below w.heap.size w W4 := d2.trans (b4.mono s2); rw [if_neg hpp]) | (go_at_call 33; refine (tideCode_2 se0 se1 se2 w.heap.size _ (HSN.out.below d4)).mono ?_; rintro e5 W5 ⟨rfl, rfl⟩))
      go_ret2
      exact ⟨rfl, d4⟩
  · have e0 : r0_NextBelow xa0 a1 a2 = 0 := by unfold r0_NextBelow; rw [hln, if_neg h]
    have e1 : r1_NextBelow xa0 a1 a2 = tcode la0 xa0 (lvok a1 ∧ inT la0 xa0 a2) := by unfold r1_NextBelow; rw [hln, if_neg h]
    rw [e0, e1]
    have e3 := tcode_ne h
    obtain ⟨C, hC⟩ : ∃ C, tcode la0 xa0 (lvok a1 ∧ inT la0 xa0 a2) = C := ⟨_, rfl⟩
    rw [hC] at e3 ⊢
    have HC := Lib.hid hC
    by_cases hv : lvok a1
    · have hbv : decide (lvok a1) = true := decide_eq_true hv
      have HB2 := Lib.hid (fun (hh : TdOk la0 xa0) => show hasM la0 xa0 a2 = decide (lvok a1 ∧ inT la0 xa0 a2) from (HB.out hh).trans (by simp [hv]))
      clear e0 e1 h hC
      go_enter Tryd.func10, Tryd.ntmps10
      go_wp2_with (first | (go_at_call 30; refine (lvI_any _ _).mono ?_; rintro el wl ⟨rfl, rfl⟩; rw [hbv]) | (go_at_call 31; refine (hasMinute_t _ _ _ xa0 _ _ ha0 RA.out _ rfl).mono ?_; rintro e1 W1 ⟨rfl, b1⟩; have s1 := b1.size; have d1 : Below w.heap.size w W1 := b1; clear b1) | (go_at_call 29; refine (tidesCode_t _ _ _ xa0 _ (lvok a1 ∧ inT la0 xa0 a2) _ ha0 ka0 (RA.out.below' d1) HB2.out _ HC.out).mono ?_; rintro e2 W2 ⟨rfl, b2⟩; have s2 : w.heap.size ≤ W2.heap.size := Nat.le_trans s1 b2.size; have d2 : Below w.heap.size w W2 := d1.trans (b2.mono s1); clear b2))
      go_ret2
      exact ⟨rfl, d2⟩
    · have hbv : decide (lvok a1) = false := decide_eq_false hv
      have HB2 := Lib.hid (fun (hh : TdOk la0 xa0) => show false = decide (lvok a1 ∧ inT la0 xa0 a2) from (by simp [hv]))
      have d1 := Below.refl w.heap.size w
      have s1 : w.heap.size ≤ w.heap.size := Nat.le_refl _
      clear e0 e1 h hC
      go_enter Tryd.func10, Tryd.ntmps10
      go_wp2_with (first | (go_at_call 30; refine (lvI_any _ _).mono ?_; rintro el wl ⟨rfl, rfl⟩; rw [hbv]) | (go_at_call 29; refine (tidesCode_t _ _ _ xa0 _ (lvok a1 ∧ inT la0 xa0 a2) _ ha0 ka0 ((RA.out.below (by repeat (first | assumption | exact Below.refl _ _ | (refine Below.setCell ?_ (by first | omega | (simp; done) | (simp; omega)) _) | apply below_drewN | apply Below.drew | (refine Below.alloc ?_ (by first | omega | (simp; done) | (simp; omega)) _)))).mono (by first | omega | (simp; done) | (simp; omega))) HB2.out _ HC.out).mono ?_; rintro e2 W2 ⟨rfl, b2⟩; have s2 : w.heap.size ≤ W2.heap.size := b2.size; have d2 : Below w.heap.size w W2 := b2; clear b2))
      go_ret2
      exact ⟨rfl, d2⟩

end Go.Proofs.YthpnkkbinffmkaaDoor
