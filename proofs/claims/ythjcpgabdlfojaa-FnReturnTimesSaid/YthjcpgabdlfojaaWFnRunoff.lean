/- The walk of the law on runoff. -/
import Derived.Test.YthjcpgabdlfojaaRnd
import Derived.Test.YthjcpgabdlfojaaA2
import Derived.Test.YthjcpgabdlfojaaRunQ
import Derived.Test.YthjcpgabdlfojaaCRoomFor
import Derived.Test.YthjcpgabdlfojaaCRunoffOf
namespace Go.Proofs.Ythjcpgabdlfojaa
open Go.RowKit

theorem room_d (A : Option Addr) (m c : Nat) (xs : List Int) (l h : Int) (w : World) (ra : Rd w w.heap.size A m xs) (r : RnD m xs) (hl : isRn l) (hh : 0 ≤ h ∧ h ≤ 100000) :
    Calls Try.prog 9 #[.slice A m c, .int .i64 l, .int .i64 h] w fun e w' => e = .returned (.tuple #[.int .i64 (mostN l h xs m), .int .i64 0]) ∧ Below w.heap.size w w' := by
  have hm := r.2.2
  have hok : RainOk xs.length xs := by rw [ra.1]; exact rnd_ok r
  refine (implC_RoomFor A m c xs l h w (by omega) ra (rnd_wf r ra.1) (WalkArith.wf_i64 (by unfold isRn at hl; omega)) (WalkArith.wf_i64 (by omega))).mono ?_
  rintro e w' ⟨rfl, hb⟩
  refine ⟨?_, hb⟩
  have e0 : r0_RoomFor xs l h = mostN l h xs m := by unfold r0_RoomFor; rw [if_pos ⟨hok, hl, hh⟩, ra.1]
  have e1 : r1_RoomFor xs l h = 0 := rcode_ok hok ⟨hl, hh⟩
  rw [e0, e1]

theorem runoff_d (A : Option Addr) (m c : Nat) (xs : List Int) (r l h : Int) (w : World) (ra : Rd w w.heap.size A m xs) (rn : RnD m xs) (hr : 0 ≤ r ∧ r ≤ 100000) (hl : isRn l) (hh : 0 ≤ h ∧ h ≤ r) :
    Calls Try.prog 10 #[.slice A m c, .int .i64 r, .int .i64 l, .int .i64 h] w fun e w' => ∃ B d, e = .returned (.tuple #[.slice B m d, .int .i64 (soilN r l h xs m), .int .i64 0]) ∧ Below w.heap.size w w' ∧ Wr w' w.heap.size B m (rowOf (offN r l h xs) m) := by
  have hm := rn.2.2
  have hok : RainOk xs.length xs := by rw [ra.1]; exact rnd_ok rn
  refine (implC_RunoffOf A m c xs r l h w (by omega) ra (rnd_wf rn ra.1) (WalkArith.wf_i64 (by omega)) (WalkArith.wf_i64 (by unfold isRn at hl; omega)) (WalkArith.wf_i64 (by omega))).mono ?_
  rintro e w' ⟨B, d, rfl, hb, hw⟩
  have e0 : r0_RunoffOf xs r l h = rowOf (offN r l h xs) m := by unfold r0_RunoffOf; rw [if_pos ⟨hok, hr, hl, hh⟩, ra.1]
  have e1 : r1_RunoffOf xs r l h = soilN r l h xs m := by unfold r1_RunoffOf; rw [if_pos ⟨hok, hr, hl, hh⟩, ra.1]
  have e2 : r2_RunoffOf xs r l h = 0 := rcode_ok hok ⟨hr, hl, hh⟩
  rw [e0, rowOf_len] at hw
  rw [e0, e1, e2, rowOf_len]
  exact ⟨B, d, rfl, hb, hw⟩

theorem off_le {room loss h0 : Int} {m : Nat} {xs : List Int} (h : RnD m xs) (l0 : isRn loss) (r : 0 ≤ room ∧ room ≤ 100000) (p : 0 ≤ h0 ∧ h0 ≤ room) : ∀ j, j < m → -1000000000 ≤ (rowOf (offN room loss h0 xs) m).getD j 0 ∧ (rowOf (offN room loss h0 xs) m).getD j 0 ≤ 1000000000 := by
  intro j hj
  rw [rowOf_at _ _ _ hj]
  have h1 := soilN_bd (rnd_ok h) l0 r p j (by omega)
  have h2 := h.1 j hj
  unfold isRn at l0
  unfold offN wetN
  omega

set_option maxRecDepth 100000 in
set_option maxHeartbeats 3200000 in
theorem law_FnRunoff (A B : Option Addr) (n c m d : Nat) (w : World) (hA : ByR w A n) (hB : ByR w B m) (hn : n ≤ 3000) (hm : m ≤ 3000) :
    Calls Try.prog 3 #[.slice A n c, .slice B m d] w fun e w' => e = .returned (.bool true) ∧ Below w.heap.size w w' := by
  have HA := Lib.hid hA
  have HB := Lib.hid hB
  clear hA hB
  have hlo : decide (3000 < n ∨ 3000 < m) = false := decide_eq_false (by omega)
  go_enter Try.func3, Try.ntmps3
  go_wp2_with fail
  refine (a2Long_t A B n c m d _ (by unfold maxLen; omega) (by unfold maxLen; omega)).mono ?_
  rintro e0 w0 ⟨rfl, rfl⟩
  rw [hlo]
  go_wp2_with fail
  refine (a2Rain_t A n c _ HA.out (by omega)).mono ?_
  rintro e1 W1 ⟨R, rc, q, xs, rfl, b1, x1, r1, _⟩
  have HB1 := Lib.hid (HB.out.below b1)
  have D1 := Lib.hid b1
  have z1 := b1.size
  have RX1 := Lib.hid x1.rd
  have HR := Lib.hid r1
  have hq1 := r1.2.1
  have hq2 := r1.2.2
  clear b1 x1 r1
  go_wp2_with fail
  refine (a2At_t B m d 0 60 _ HB1.out hm (by omega) (by omega) (by omega)).mono ?_
  rintro e2 W2 ⟨l, rfl, l1, l2, rfl⟩
  go_wp2_with fail
  refine (a2At_t B m d 1 100 _ HB1.out hm (by omega) (by omega) (by omega)).mono ?_
  rintro e3 W3 ⟨h, rfl, h1, h2, rfl⟩
  have HL := Lib.hid (show isRn l from ⟨l1, by omega⟩)
  obtain ⟨t1, t2, ⟨t3, t4⟩, ⟨t5, t6⟩, t7⟩ := runoff_all (loss := l) (h0 := h) (n := q) (xs := xs) (fun j hj => by have := HR.out.1 j hj; omega) l1 h1
  have t8 := (mostN_bd (rnd_ok HR.out) HL.out ⟨h1, by omega⟩ q (Nat.le_refl _)).2
  obtain ⟨M, hM⟩ : ∃ M, M = mostN l h xs q := ⟨_, rfl⟩
  rw [← hM] at t1 t2 t3 t4 t5 t6 t7 t8
  have t9 : M ≤ 100000 := by
    rw [hM]
    obtain ⟨s1, s2⟩ := most_ge l h xs q
    refine most_le l h 100000 xs (by omega) q (fun j hj => ?_)
    have a := (held_sum (loss := l) (h0 := h) (xs := xs) l1 (j + 1) (fun i hi => (HR.out.1 i (by omega)).1) h1).2.2
    have b := (sumN_bM 199 q xs (fun i hi => by have := HR.out.1 i hi; omega) (j + 1) (by omega)).2
    omega
  have HM := Lib.hid hM
  have HT7 := Lib.hid t7
  obtain ⟨sm1, sm2⟩ := sumN_bM 200 q xs (fun i hi => by have := HR.out.1 i hi; omega) q (Nat.le_refl _)
  clear hM t7 t8
  go_wp2_with fail
  refine (room_d R q rc xs l h _ RX1.out HR.out HL.out ⟨h1, by omega⟩).mono ?_
  rintro e4 W4 ⟨rfl, b4⟩
  rw [← HM.out]
  have D4 := Lib.hid (D1.out.trans (b4.mono z1))
  have z4 := b4.size
  have RX4 := Lib.hid ((RX1.out.below b4).mono z4)
  clear b4
  go_wp2_with fail
  refine (runoff_d R q rc xs M l h _ RX4.out HR.out ⟨by omega, t9⟩ HL.out ⟨h1, t1⟩).mono ?_
  rintro e5 W5 ⟨O, od, rfl, b5, x5⟩
  have D5 := Lib.hid (D4.out.trans (b5.mono (by omega)))
  have z5 := b5.size
  have RX5 := Lib.hid ((RX4.out.below b5).mono z5)
  have RO5 := Lib.hid x5.rd
  have HOL := Lib.hid (off_le HR.out HL.out (show 0 ≤ M ∧ M ≤ 100000 from ⟨by omega, t9⟩) ⟨h1, t1⟩)
  have HT2 := Lib.hid t2
  clear b5 x5 t2
  obtain ⟨sl, hsl⟩ : ∃ s, s = soilN M l h xs q := ⟨_, rfl⟩
  rw [← hsl] at t3 t4 t5 t6 ⊢
  clear hsl
  obtain ⟨SM, hSM⟩ : ∃ s, s = sumN xs q := ⟨_, rfl⟩
  rw [← hSM] at t5 t6 sm1 sm2
  have HSM := Lib.hid hSM.symm
  clear hSM
  obtain ⟨PR, hPR⟩ : ∃ p, p = l * (q : Int) := ⟨_, rfl⟩
  have pr1 : 0 ≤ PR := by rw [hPR]; exact Int.mul_nonneg l1 (by omega)
  have pr2 : PR ≤ 960 := by rw [hPR]; exact Int.le_trans (Int.mul_le_mul (show l ≤ 60 by omega) (show (q : Int) ≤ 16 by omega) (by omega) (by omega)) (by decide)
  rw [← hPR] at t6
  have wpr := IntWalk.i64_in (l * (q : Int)) (by rw [← hPR]; omega)
  rw [hPR] at t6
  have q0 : ((q : Int) != (q : Int)) = false := by simp
  have e6 : ¬ M < h := by omega
  have e7 : ¬ sl < 0 := by omega
  have e8 : ¬ M < sl := by omega
  have w1 := IntWalk.i64_in (h + SM) (by omega)
  have w2 := IntWalk.i64_in (h + SM - sl) (by omega)
  have e9 : ¬ h + SM - sl < 0 := by omega
  have e10 : ¬ l * (q : Int) < h + SM - sl := by omega
  have HPR := Lib.hid hPR
  clear hPR
  go_wp2_with fail
  refine (a2Sum_t O q od _ _ (by omega) RO5.out HOL.out).mono ?_
  rintro e7' w7 ⟨rfl, rfl⟩
  rw [HT2.out]
  by_cases hne : M = h
  · have hbe : (M == h) = true := by simp [hne]
    have HNE := Lib.hid hne
    clear hne
    go_wp2_with (go_at_call 11; refine (a2Sum_t R q rc xs _ (by omega) RX5.out (fun j hj => by have := HR.out.1 j hj; omega)).mono ?_; rintro e8' w8 ⟨rfl, rfl⟩; rw [HSM.out])
    go_ret
    exact ⟨rfl, D5.out⟩
  · have hbe : (M == h) = false := by simp [hne]
    have t7 := HT7.out hne
    have w3 := IntWalk.i64_in (M - 1) (by omega)
    have hM1 : h ≤ M - 1 := by omega
    have u1 := soilN_bd (rnd_ok HR.out) HL.out (show 0 ≤ M - 1 ∧ M - 1 ≤ 100000 by omega) ⟨h1, hM1⟩ q (Nat.le_refl _)
    obtain ⟨u1, u2⟩ := u1
    have HOL2 := Lib.hid (off_le HR.out HL.out (show 0 ≤ M - 1 ∧ M - 1 ≤ 100000 by omega) ⟨h1, hM1⟩)
    clear hne
    go_wp2_with (go_at_call 11; refine (a2Sum_t R q rc xs _ (by omega) RX5.out (fun j hj => by have := HR.out.1 j hj; omega)).mono ?_; rintro e8' w8 ⟨rfl, rfl⟩; rw [HSM.out])
    refine (runoff_d R q rc xs (M - 1) l h _ RX5.out HR.out ⟨by omega, by omega⟩ HL.out ⟨h1, hM1⟩).mono ?_
    rintro e9' W9 ⟨O2, od2, rfl, b9, x9⟩
    have D9 := Lib.hid (D5.out.trans (b9.mono (by omega)))
    have RO9 := Lib.hid x9.rd
    clear b9 x9
    generalize soilN (M - 1) l h xs q = s2 at u1 u2 ⊢
    have qe : ((q : Int) == (q : Int)) = true := by simp
    obtain ⟨SS, hSS⟩ : ∃ s, s = sumN (rowOf (offN (M - 1) l h xs) q) q := ⟨_, rfl⟩
    rw [← hSS] at t7
    have HSS := Lib.hid hSS.symm
    clear hSS
    go_wp2_with fail
    refine (a2Sum_t O2 q od2 _ _ (by omega) RO9.out HOL2.out).mono ?_
    rintro e10' w10 ⟨rfl, rfl⟩
    rw [HSS.out]
    go_wp2
    go_ret
    exact ⟨ret_bool (by first | rfl | (simp; done) | (simp; omega)), D9.out⟩

theorem walk_FnRunoff (a0 : Option Addr) (la0 ca0 : Nat) (za0 : List Int) (a1 : Option Addr) (la1 ca1 : Nat) (za1 : List Int) (w : World) (wa0 : IsRow .u8 w a0 la0 ca0 za0) (wa1 : IsRow .u8 w a1 la1 ca1 za1) :
    Calls Try.prog 3 #[.slice a0 la0 ca0, .slice a1 la1 ca1] w fun e w' => e = .returned (.bool true) ∧ Below w.heap.size w w' := by
  by_cases hn : la0 ≤ 3000 ∧ la1 ≤ 3000
  · exact law_FnRunoff a0 a1 la0 ca0 la1 ca1 w wa0.by wa1.by hn.1 hn.2
  · have hm0 := wa0.len
    have hm1 := wa1.len
    have hlo : decide (3000 < la0 ∨ 3000 < la1) = true := decide_eq_true (by omega)
    clear wa0 wa1 hn
    go_enter Try.func3, Try.ntmps3
    go_wp2_with (go_at_call 6; refine (a2Long_t a0 a1 la0 ca0 la1 ca1 _ hm0 hm1).mono ?_; rintro e0 w0 ⟨rfl, rfl⟩; rw [hlo])
    go_ret
    exact ⟨rfl, Below.refl _ _⟩

end Go.Proofs.Ythjcpgabdlfojaa
