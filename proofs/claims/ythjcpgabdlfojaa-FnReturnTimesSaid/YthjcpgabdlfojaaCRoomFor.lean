import Derived.Test.YthjcpgabdlfojaaRainM
namespace Go.Proofs.Ythjcpgabdlfojaa
open Go.RowKit

def rfOk (a1 a2 : Int) : Prop := isRn a1 ∧ (0 ≤ a2 ∧ a2 ≤ 100000)
instance (a1 a2 : Int) : Decidable (rfOk a1 a2) := by unfold rfOk; exact inferInstance
def r0_RoomFor (xa0 : List Int) (a1 : Int) (a2 : Int) : Int := if RainOk xa0.length xa0 ∧ rfOk a1 a2 then mostN a1 a2 xa0 xa0.length else 0
def r1_RoomFor (xa0 : List Int) (a1 : Int) (a2 : Int) : Int := rcode xa0.length xa0 (rfOk a1 a2)

set_option maxHeartbeats 1600000 in
theorem implC_RoomFor (a0 : Option Addr) (la0 ca0 : Nat) (xa0 : List Int) (a1 : Int) (a2 : Int) (w : World) (ha0 : la0 ≤ 1048576) (ra0 : Rd w w.heap.size a0 la0 xa0) (fa0 : Wf xa0) (ha1 : (Lit.int .i64 a1).wf = true) (ha2 : (Lit.int .i64 a2).wf = true) :
    Calls Try.prog 9 #[.slice a0 la0 ca0, .int .i64 a1, .int .i64 a2] w fun e w' => e = .returned (.tuple #[.int .i64 (r0_RoomFor xa0 a1 a2), .int .i64 (r1_RoomFor xa0 a1 a2)]) ∧ Below w.heap.size w w' := by
  have hln := ra0.1
  have RA := Lib.hid ra0
  clear ra0
  by_cases h : RainOk la0 xa0 ∧ rfOk a1 a2
  · have e0 : r0_RoomFor xa0 a1 a2 = mostN a1 a2 xa0 la0 := by unfold r0_RoomFor; rw [hln, if_pos h]
    have e1 : r1_RoomFor xa0 a1 a2 = 0 := by unfold r1_RoomFor; rw [hln]; exact rcode_ok h.1 h.2
    rw [e0, e1]
    have HR := Lib.hid (show rcode la0 xa0 (rfOk a1 a2) = 0 from rcode_ok h.1 h.2)
    have HP := Lib.hid (show true = decide (rfOk a1 a2) from (decide_eq_true h.2).symm)
    obtain ⟨hv, ⟨l1, l2⟩, h2, h3⟩ := h
    have HB := Lib.hid (heldN_bd hv ⟨l1, l2⟩ ⟨h2, h3⟩)
    have HM := Lib.hid (mostN_bd hv ⟨l1, l2⟩ ⟨h2, h3⟩)
    have h120 := hv.2.2
    have HV := Lib.hid hv
    clear e0 e1 hv
    go_enter Try.func9, Try.ntmps9
    go_wp2_with (first | (go_at_call 19; first | (refine (within_t _ _ _ _ (by omega)).mono ?_; rintro e w' ⟨rfl, rfl⟩) | (refine (within_f _ _ _ _ (by omega)).mono ?_; rintro e w' ⟨rfl, rfl⟩)) | (go_at_call 18; refine (rainCode_t _ _ _ xa0 _ (rfOk a1 a2) true ha0 RA.out HP.out).mono ?_; rintro e1 W1 ⟨rfl, hw1⟩; have d1 : Below w.heap.size w W1 := (by rw [hw1]; exact (by repeat (first | assumption | exact Below.refl _ _ | (refine Below.setCell ?_ (by first | omega | (simp; done) | (simp; omega)) _) | apply below_drewN | apply Below.drew | (refine Below.alloc ?_ (by first | omega | (simp; done) | (simp; omega)) _)))); clear hw1; have RB := Lib.hid ((RA.out.below d1).mono d1.size); rw [HR.out]))
    go_loop [2, 9, 11, 26] (fun hl mo _ i => ∃ k : Nat, k ≤ la0 ∧ i = .int .i64 (k : Int) ∧ hl = .int .i64 (heldN a1 a2 xa0 k) ∧ mo = .int .i64 (mostN a1 a2 xa0 k)) (fun _ _ _ i => la0 - (intOf i).toNat)
    case atStart => exact ⟨0, by omega, rfl, rfl, rfl⟩
    case round =>
      obtain ⟨k, hk, rfl, rfl, rfl⟩ := hrel
      by_cases hlt : k < la0
      · obtain ⟨ab, o, rfl, hbB, hc⟩ := RB.out.2 (by omega)
        have c1 := hc k hlt
        clear hc
        have hx := HV.out.1 k hlt
        obtain ⟨g1, g2⟩ := hx
        obtain ⟨p1, p2⟩ := HB.out k (by omega)
        obtain ⟨p3, p4⟩ := HB.out (k + 1) (by omega)
        have HS := Lib.hid (show heldN a1 a2 xa0 (k + 1) = max 0 (heldN a1 a2 xa0 k - a1) + xa0.getD k 0 from rfl)
        have HT := Lib.hid (show mostN a1 a2 xa0 (k + 1) = max (mostN a1 a2 xa0 k) (heldN a1 a2 xa0 (k + 1)) from rfl)
        obtain ⟨t1, ht1⟩ : ∃ t, t = heldN a1 a2 xa0 (k + 1) := ⟨_, rfl⟩
        obtain ⟨t2, ht2⟩ : ∃ t, t = mostN a1 a2 xa0 (k + 1) := ⟨_, rfl⟩
        simp only [← ht1, ← ht2] at HS HT p3 p4
        have H1 := Lib.hid ht1
        have H2 := Lib.hid ht2
        clear ht1 ht2
        generalize heldN a1 a2 xa0 k = s1 at *
        generalize mostN a1 a2 xa0 k = s2 at *
        generalize xa0.getD k 0 = x at *
        by_cases hm : s2 ≤ t1
        · go_wp2_with (go_at_call 20; refine (heldAfter_t _ _ _ _ (by omega) (by omega) (by omega)).mono ?_; rintro e w' ⟨rfl, rfl⟩; rw [← HS.out])
          go_round
          case rel => exact ⟨k + 1, by omega, by go_num, by rw [← H1.out], by rw [← H2.out, HT.out]; simp; omega⟩
          case measure => simp [intOf]; omega
        · go_wp2_with (go_at_call 20; refine (heldAfter_t _ _ _ _ (by omega) (by omega) (by omega)).mono ?_; rintro e w' ⟨rfl, rfl⟩; rw [← HS.out])
          go_round
          case rel => exact ⟨k + 1, by omega, by go_num, by rw [← H1.out], by rw [← H2.out, HT.out]; simp; omega⟩
          case measure => simp [intOf]; omega
      · obtain rfl : k = la0 := by omega
        go_wp2
        go_ret2
        exact ⟨rfl, d1⟩
  · have e0 : r0_RoomFor xa0 a1 a2 = 0 := by unfold r0_RoomFor; rw [hln, if_neg h]
    have e1 : r1_RoomFor xa0 a1 a2 = rcode la0 xa0 (rfOk a1 a2) := by unfold r1_RoomFor; rw [hln]
    rw [e0, e1]
    have e2 := rcode_ne h
    clear e0 e1 h
    by_cases h1 : 0 ≤ a1 ∧ a1 ≤ 3000
    · by_cases h2 : 0 ≤ a2 ∧ a2 ≤ 100000
      · have HP := Lib.hid (show true = decide (rfOk a1 a2) from (decide_eq_true ⟨h1, h2⟩).symm)
        generalize hC : rcode la0 xa0 (rfOk a1 a2) = C at *
        have HC := Lib.hid hC
        clear hC
        go_enter Try.func9, Try.ntmps9
        go_wp2_with (first | (go_at_call 19; first | (refine (within_t _ _ _ _ (by omega)).mono ?_; rintro e w' ⟨rfl, rfl⟩) | (refine (within_f _ _ _ _ (by omega)).mono ?_; rintro e w' ⟨rfl, rfl⟩)) | (go_at_call 18; refine (rainCode_t _ _ _ xa0 _ (rfOk a1 a2) true ha0 RA.out HP.out).mono ?_; rintro e1 W1 ⟨rfl, hw1⟩; have d1 : Below w.heap.size w W1 := (by rw [hw1]; exact (by repeat (first | assumption | exact Below.refl _ _ | (refine Below.setCell ?_ (by first | omega | (simp; done) | (simp; omega)) _) | apply below_drewN | apply Below.drew | (refine Below.alloc ?_ (by first | omega | (simp; done) | (simp; omega)) _)))); clear hw1; have RB := Lib.hid ((RA.out.below d1).mono d1.size); rw [HC.out]))
        go_ret2
        exact ⟨rfl, d1⟩
      · have HP := Lib.hid (show false = decide (rfOk a1 a2) from (decide_eq_false (fun g => h2 g.2)).symm)
        generalize hC : rcode la0 xa0 (rfOk a1 a2) = C at *
        have HC := Lib.hid hC
        have h2' : a2 < 0 ∨ 100000 < a2 := by omega
        clear hC h2
        go_enter Try.func9, Try.ntmps9
        go_wp2_with (first | (go_at_call 19; first | (refine (within_t _ _ _ _ (by omega)).mono ?_; rintro e w' ⟨rfl, rfl⟩) | (refine (within_f _ _ _ _ (by omega)).mono ?_; rintro e w' ⟨rfl, rfl⟩)) | (go_at_call 18; refine (rainCode_t _ _ _ xa0 _ (rfOk a1 a2) false ha0 RA.out HP.out).mono ?_; rintro e1 W1 ⟨rfl, hw1⟩; have d1 : Below w.heap.size w W1 := (by rw [hw1]; exact (by repeat (first | assumption | exact Below.refl _ _ | (refine Below.setCell ?_ (by first | omega | (simp; done) | (simp; omega)) _) | apply below_drewN | apply Below.drew | (refine Below.alloc ?_ (by first | omega | (simp; done) | (simp; omega)) _)))); clear hw1; have RB := Lib.hid ((RA.out.below d1).mono d1.size); rw [HC.out]))
        go_ret2
        exact ⟨rfl, d1⟩
    · have HP := Lib.hid (show false = decide (rfOk a1 a2) from (decide_eq_false (fun g => h1 g.1)).symm)
      generalize hC : rcode la0 xa0 (rfOk a1 a2) = C at *
      have HC := Lib.hid hC
      have h1' : a1 < 0 ∨ 3000 < a1 := by omega
      clear hC h1
      go_enter Try.func9, Try.ntmps9
      go_wp2_with (first | (go_at_call 19; first | (refine (within_t _ _ _ _ (by omega)).mono ?_; rintro e w' ⟨rfl, rfl⟩) | (refine (within_f _ _ _ _ (by omega)).mono ?_; rintro e w' ⟨rfl, rfl⟩)) | (go_at_call 18; refine (rainCode_t _ _ _ xa0 _ (rfOk a1 a2) false ha0 RA.out HP.out).mono ?_; rintro e1 W1 ⟨rfl, hw1⟩; have d1 : Below w.heap.size w W1 := (by rw [hw1]; exact (by repeat (first | assumption | exact Below.refl _ _ | (refine Below.setCell ?_ (by first | omega | (simp; done) | (simp; omega)) _) | apply below_drewN | apply Below.drew | (refine Below.alloc ?_ (by first | omega | (simp; done) | (simp; omega)) _)))); clear hw1; have RB := Lib.hid ((RA.out.below d1).mono d1.size); rw [HC.out]))
      go_ret2
      exact ⟨rfl, d1⟩

end Go.Proofs.Ythjcpgabdlfojaa
