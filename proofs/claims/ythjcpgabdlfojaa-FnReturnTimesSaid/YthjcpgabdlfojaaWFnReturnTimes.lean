/- The walk of the law on return times. -/
import Derived.Test.YthjcpgabdlfojaaRetP
import Derived.Test.YthjcpgabdlfojaaWFnRunoff
namespace Go.Proofs.Ythjcpgabdlfojaa
open Go.RowKit

theorem ranks_d (A : Option Addr) (m c : Nat) (xs : List Int) (w : World) (ra : Rd w w.heap.size A m xs) (rn : RnD m xs) :
    Calls Try.prog 14 #[.slice A m c] w fun e w' => ∃ B d, e = .returned (.tuple #[.slice B m d, .int .i64 0]) ∧ Below w.heap.size w w' ∧ Wr w' w.heap.size B m (rowOf (rkF xs) m) := by
  have hm := rn.2.2
  have hok : RainOk xs.length xs := by rw [ra.1]; exact rnd_ok rn
  refine (implC_RanksOf A m c xs w (by omega) ra (rnd_wf rn ra.1)).mono ?_
  rintro e w' ⟨B, d, rfl, hb, hw⟩
  have e0 : r0_RanksOf xs = rowOf (rkF xs) m := by unfold r0_RanksOf; rw [if_pos hok, ra.1]
  have e1 : r1_RanksOf xs = 0 := rcode_ok hok trivial
  rw [e0, rowOf_len] at hw
  rw [e0, e1, rowOf_len]
  exact ⟨B, d, rfl, hb, hw⟩

theorem ret_d (A : Option Addr) (m c : Nat) (xs : List Int) (a : Int) (w : World) (ra : Rd w w.heap.size A m xs) (rn : RnD m xs) (ha : isRn a) :
    Calls Try.prog 15 #[.slice A m c, .int .i64 a] w fun e w' => ∃ p q z : Int, e = .returned (.tuple #[.agg #[.int .i64 p, .int .i64 q], .int .i64 z]) ∧ Below w.heap.size w w' ∧ (cntN xs a m = 0 → z = 3) ∧ (cntN xs a m ≠ 0 → z = 0 ∧ p = fnum ((m : Int) + 1) (cntN xs a m) ∧ q = fden ((m : Int) + 1) (cntN xs a m)) := by
  have hm := rn.2.2
  have hok : RainOk xs.length xs := by rw [ra.1]; exact rnd_ok rn
  refine (implC_ReturnTime A m c xs a w (by omega) ra (rnd_wf rn ra.1) (WalkArith.wf_i64 (by unfold isRn at ha; omega))).mono ?_
  rintro e w' ⟨rfl, hb⟩
  refine ⟨_, _, _, rfl, hb, fun h => ?_, fun h => ?_⟩
  · unfold r2_ReturnTime rtm; rw [if_pos ⟨hok, ha⟩, ra.1, if_pos h]
  · have ok : rtOk xs a := ⟨⟨hok, ha⟩, by unfold rtm; rw [ra.1]; exact h⟩
    refine ⟨?_, ?_, ?_⟩
    · unfold r2_ReturnTime rtm; rw [if_pos ⟨hok, ha⟩, ra.1, if_neg h]
    · unfold r0_ReturnTime; rw [if_pos ok]; unfold rtm; rw [ra.1]
    · unfold r1_ReturnTime; rw [if_pos ok]; unfold rtm; rw [ra.1]

set_option maxRecDepth 100000 in
set_option maxHeartbeats 3200000 in
theorem law_FnReturnTimes (A B : Option Addr) (n c m d : Nat) (w : World) (hA : ByR w A n) (hB : ByR w B m) (hn : n ≤ 3000) (hm : m ≤ 3000) :
    Calls Try.prog 5 #[.slice A n c, .slice B m d] w fun e w' => e = .returned (.bool true) ∧ Below w.heap.size w w' := by
  have HA := Lib.hid hA
  have HB := Lib.hid hB
  clear hA hB
  have hlo : decide (3000 < n ∨ 3000 < m) = false := decide_eq_false (by omega)
  go_enter Try.func5, Try.ntmps5
  go_wp2_with fail
  refine (a2Long_t A B n c m d _ (by unfold maxLen; omega) (by unfold maxLen; omega)).mono ?_
  rintro e0 w0 ⟨rfl, rfl⟩
  rw [hlo]
  go_wp2_with fail
  refine (a2Rain_t A n c _ HA.out (by omega)).mono ?_
  rintro e1 W1 ⟨R, rc, q, xs, rfl, b1, x1, r1, _⟩
  have HB1 := Lib.hid (HB.out.below b1)
  have D1 := Lib.hid b1
  have z1 := b1.size
  have RX1 := Lib.hid x1.rd
  have HR := Lib.hid r1
  have hq1 := r1.2.1
  have hq2 := r1.2.2
  have hxl := x1.1
  clear b1 x1 r1
  go_wp2_with fail
  refine (ranks_d R q rc xs _ RX1.out HR.out).mono ?_
  rintro e2 W2 ⟨K, kc, rfl, b2, x2⟩
  have D2 := Lib.hid (D1.out.trans (b2.mono z1))
  have z2 := b2.size
  have RX2 := Lib.hid ((RX1.out.below b2).mono z2)
  have RK2 := Lib.hid x2.rd
  have HB2 := Lib.hid (HB1.out.below b2)
  clear b2 x2
  have q0 : ((q : Int) != (q : Int)) = false := by simp
  have RKI := Lib.hid (fun i k (hi : i < q) => rk_iff xs (k := k) hi hxl)
  have RKB := Lib.hid (fun i (hi : i < q) => rk_bd xs hi hxl)
  clear hxl
  go_wp2
  go_loopw [8, 9] (fun i _ wr => ∃ a : Nat, a ≤ q ∧ i = .int .i64 (a : Int) ∧ Below W2.heap.size W2 wr) (fun i _ _ => q - (intOf i).toNat)
  case atStart => exact ⟨0, by omega, rfl, Below.refl _ _⟩
  case round =>
    obtain ⟨a, ha, rfl, hb⟩ := hrel
    have hz := hb.size
    by_cases hlt : a < q
    · obtain ⟨rb, ro, rfl, hrB, hrc⟩ := RX2.out.2 (by omega)
      obtain ⟨kb, ko, rfl, hkB, hkc⟩ := RK2.out.2 (by omega)
      have HRC := Lib.hid hrc
      have HKC := Lib.hid hkc
      clear hrc hkc
      go_wp2
      go_loopw [9] (fun j wr2 => ∃ b : Nat, b ≤ q ∧ j = .int .i64 (b : Int) ∧ Below W2.heap.size W2 wr2) (fun j _ => q - (intOf j).toNat)
      case atStart => exact ⟨0, by omega, rfl, hb⟩
      case round =>
        obtain ⟨b, hb', rfl, hb2⟩ := hrel
        by_cases hlt2 : b < q
        · have c1 := (hb2.cell (p := ⟨rb, ro + a, none⟩) hrB).trans (HRC.out a hlt)
          have c2 := (hb2.cell (p := ⟨rb, ro + b, none⟩) hrB).trans (HRC.out b hlt2)
          have c3 := (hb2.cell (p := ⟨kb, ko + a, none⟩) hkB).trans (HKC.out a hlt)
          have c4 := (hb2.cell (p := ⟨kb, ko + b, none⟩) hkB).trans (HKC.out b hlt2)
          rw [rowOf_at _ _ _ hlt] at c3
          rw [rowOf_at _ _ _ hlt2] at c4
          have hi := RKI.out a b hlt
          generalize xs.getD a 0 = xa at c1 hi
          generalize xs.getD b 0 = xb at c2 hi
          generalize rkF xs a = ka at c3 hi
          generalize rkF xs b = kb' at c4 hi
          by_cases g : xb < xa
          · have g2 := hi.1 g
            clear hi
            go_wp2
            go_quiet (fail)
            go_wp2
            exact ⟨⟨b + 1, by omega, by go_num, below_drewN hb2 _⟩, by simp [intOf]; omega⟩
          · have g2 : decide (ka < kb') = false := decide_eq_false (fun x => g (hi.2 x))
            have g1 : decide (xb < xa) = false := decide_eq_false g
            clear hi g
            go_wp2
            go_quiet (fail)
            go_wp2
            exact ⟨⟨b + 1, by omega, by go_num, below_drewN hb2 _⟩, by simp [intOf]; omega⟩
        · have c3 := (hb2.cell (p := ⟨kb, ko + a, none⟩) hkB).trans (HKC.out a hlt)
          rw [rowOf_at _ _ _ hlt] at c3
          obtain ⟨k1, k2⟩ := RKB.out a hlt
          generalize rkF xs a = ka at c3 k1 k2
          go_wp2
          exact ⟨⟨a + 1, by omega, by go_num, hb2⟩, by simp [intOf]; omega⟩
    · obtain rfl : a = q := by omega
      have D3 := Lib.hid (D2.out.trans (hb.mono (by omega)))
      have RX3 := Lib.hid ((RX2.out.below hb).mono hz)
      have HB3 := Lib.hid (HB2.out.below hb)
      clear hb
      go_wp2_with fail
      refine (a2At_t B m d 0 200 _ HB3.out hm (by omega) (by omega) (by omega)).mono ?_
      rintro e4 W4 ⟨am, rfl, m1, m2, rfl⟩
      have mo1 := cntN_bd xs am a
      have mo2 := cnt_mono xs (show am ≤ am + 1 by omega) a
      have mo3 := cntN_bd xs (am + 1) a
      generalize hc1 : cntN xs am a = C1 at mo1 mo2
      generalize hc2 : cntN xs (am + 1) a = C2 at mo2 mo3
      have HC1 := Lib.hid hc1
      have HC2 := Lib.hid hc2
      clear hc1 hc2
      go_wp2_with fail
      refine (ret_d R a rc xs am _ RX3.out HR.out ⟨m1, by omega⟩).mono ?_
      rintro e5 W5 ⟨p1, q1, y1, rfl, b5, f1, f2⟩
      rw [HC1.out] at f1 f2
      have D5 := Lib.hid (D3.out.trans (b5.mono (by omega)))
      have z5 := b5.size
      have RX5 := Lib.hid ((RX3.out.below b5).mono z5)
      clear b5
      have RX5' := Lib.hid (rd_al RX5.out (.cells #[.int .i64 p1, .int .i64 q1] 40))
      go_wp2_with fail
      refine (ret_d R a rc xs (am + 1) _ RX5'.out HR.out ⟨by omega, by omega⟩).mono ?_
      rintro e6 W6 ⟨p2, q2, y2, rfl, b6, g1, g2⟩
      rw [HC2.out] at g1 g2
      obtain ⟨k6, _⟩ := bcell b6
      have z6 := b6.size
      simp at z6
      have c0 : W6.cell? ⟨W5.heap.size, 0, none⟩ = some (.int .i64 p1) := by rw [k6 _ _ (by simp)]; first | (simp; done) | go_simp
      have c1 : W6.cell? ⟨W5.heap.size, 1, none⟩ = some (.int .i64 q1) := by rw [k6 _ _ (by simp)]; first | (simp; done) | go_simp
      have D6 := Lib.hid ((D5.out.alloc (by omega) (.cells #[.int .i64 p1, .int .i64 q1] 40)).trans (b6.mono (by simp; omega)))
      clear b6 k6
      have lt6 : W5.heap.size < W6.heap.size := by omega
      by_cases hz1 : C1 = 0
      · have y1e : y1 = 3 := f1 hz1
        have y2e : y2 = 3 := g1 (by omega)
        subst y1e y2e
        clear f1 f2 g1 g2
        go_wp2
        go_ret
        exact ⟨rfl, D6.out.alloc (by omega) _⟩
      · obtain ⟨y1e, pe1, qe1⟩ := f2 hz1
        obtain ⟨⟨o1, o2⟩, ⟨o3, o4⟩, o5⟩ := ret_one (n := (a : Int)) (m := C1) (by omega) (by omega) (by omega)
        rw [← pe1, ← qe1] at o5
        rw [← qe1] at o1 o2
        rw [← pe1] at o3 o4
        subst y1e
        by_cases hz2 : C2 = 0
        · have y2e : y2 = 3 := g1 hz2
          subst y2e
          clear f1 f2 g1 g2 pe1 qe1
          go_wp2
          go_ret
          exact ⟨rfl, D6.out.alloc (by omega) _⟩
        · obtain ⟨y2e, pe2, qe2⟩ := g2 hz2
          obtain ⟨⟨o6, o7⟩, ⟨o8, o9⟩, _⟩ := ret_one (n := (a : Int)) (m := C2) (by omega) (by omega) (by omega)
          have o10 := ret_two (n := (a : Int)) (m := C1) (k := C2) (by omega) (by omega) (by omega)
          rw [← pe1, ← qe1, ← pe2, ← qe2] at o10
          rw [← qe2] at o6 o7
          rw [← pe2] at o8 o9
          subst y2e
          have t1 := Int.mul_nonneg (show 0 ≤ p1 by omega) (show 0 ≤ q2 by omega)
          have t2 : p2 * q1 ≤ 200 * 200 := Int.mul_le_mul o9 o2 (by omega) (by omega)
          have v1 := IntWalk.i64_in (p1 * q2) (by omega)
          have v2 := IntWalk.i64_in (p2 * q1) (by omega)
          clear f1 f2 g1 g2 pe1 qe1 pe2 qe2 t1 t2
          go_wp2
          go_ret
          exact ⟨ret_bool (by first | rfl | (simp; done) | (simp; omega)), D6.out.alloc (by omega) _⟩

theorem walk_FnReturnTimes (a0 : Option Addr) (la0 ca0 : Nat) (za0 : List Int) (a1 : Option Addr) (la1 ca1 : Nat) (za1 : List Int) (w : World) (wa0 : IsRow .u8 w a0 la0 ca0 za0) (wa1 : IsRow .u8 w a1 la1 ca1 za1) :
    Calls Try.prog 5 #[.slice a0 la0 ca0, .slice a1 la1 ca1] w fun e w' => e = .returned (.bool true) ∧ Below w.heap.size w w' := by
  by_cases hn : la0 ≤ 3000 ∧ la1 ≤ 3000
  · exact law_FnReturnTimes a0 a1 la0 ca0 la1 ca1 w wa0.by wa1.by hn.1 hn.2
  · have hm0 := wa0.len
    have hm1 := wa1.len
    have hlo : decide (3000 < la0 ∨ 3000 < la1) = true := decide_eq_true (by omega)
    clear wa0 wa1 hn
    go_enter Try.func5, Try.ntmps5
    go_wp2_with (go_at_call 6; refine (a2Long_t a0 a1 la0 ca0 la1 ca1 _ hm0 hm1).mono ?_; rintro e0 w0 ⟨rfl, rfl⟩; rw [hlo])
    go_ret
    exact ⟨rfl, Below.refl _ _⟩

end Go.Proofs.Ythjcpgabdlfojaa
