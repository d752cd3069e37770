/- By how much all stages lift. -/
import Derived.Test.YtlkgbemlagfdjaaMilG
namespace Go.Proofs.Ytlkgbemlagfdjaa
open Go.RowKit

def lfK (xs : List RMill) (k : Nat) : Int := (xs.getD k zMill).f0
def ltN (xs : List RMill) : Nat → Int
  | 0 => 500
  | k + 1 => min (ltN xs k) (lfK xs k)
theorem lfK_bd {xs : List RMill} (h : rowOk xs) (k : Nat) (hk : k < xs.length) : 1 ≤ lfK xs k ∧ lfK xs k ≤ 500 := (h.1 k hk).1
theorem ltN_bd {xs : List RMill} (h : rowOk xs) (k : Nat) (hk : k ≤ xs.length) : 1 ≤ ltN xs k ∧ ltN xs k ≤ 500 := by
  induction k with
  | zero => simp [ltN]
  | succ k ih =>
    have h1 := ih (by omega)
    have h2 := lfK_bd h k (by omega)
    simp only [ltN]
    omega
def tlN (xss : List (List RMill)) : Nat → Int
  | 0 => 0
  | k + 1 => tlN xss k + ltN (mGet xss k) (mGet xss k).length
theorem tlN_bd {n : Nat} {xss : List (List RMill)} (h : rowsOk n xss) (k : Nat) (hk : k ≤ n) : 0 ≤ tlN xss k ∧ tlN xss k ≤ 500 * (k : Int) := by
  induction k with
  | zero => simp [tlN]
  | succ k ih =>
    have h1 := ih (by omega)
    have h2 := ltN_bd (h k (by omega)) (mGet xss k).length (Nat.le_refl _)
    simp only [tlN]
    omega
theorem minM_t (a b : Int) (w : World) : Calls Try.prog 75 #[.int .i64 a, .int .i64 b] w fun e w' => e = .returned (.int .i64 (min a b)) ∧ w = w' := by
  by_cases h : a < b
  · rw [show min a b = a by omega]
    go_enter Try.func75, Try.ntmps75
    go_wp2
    go_ret
    exact ⟨rfl, rfl⟩
  · rw [show min a b = b by omega]
    go_enter Try.func75, Try.ntmps75
    go_wp2
    go_ret
    exact ⟨rfl, rfl⟩

def r0_TotalLift (xa0 : List (List RMill)) : Int := if stOk xa0.length xa0 then tlN xa0 xa0.length else 0
def r1_TotalLift (xa0 : List (List RMill)) : Int := sc4 (stOk xa0.length xa0) True

set_option maxRecDepth 100000 in
set_option maxHeartbeats 1600000 in
theorem lift_t (A : Option Addr) (n c : Nat) (xs : List RMill) (w : World) (ha : Rd_Mill w w.heap.size A n xs) (hs : rowOk xs) (q : Int) (hq : q = ltN xs n) :
    Calls Try.prog 76 #[.slice A n c] w fun e w' => e = .returned (.int .i64 q) ∧ Below w.heap.size w w' := by
  have hln := ha.len
  have HA := Lib.hid ha
  have HS := Lib.hid hs
  have HQ := Lib.hid hq
  have hn8 := hs.2.2
  have n8 : n ≤ 8 := by omega
  clear ha hs hq
  go_enter Try.func76, Try.ntmps76
  go_wp2
  go_loopw [3, 5, 8] (fun s _ i wr => ∃ k : Nat, k ≤ n ∧ i = .int .i64 (k : Int) ∧ s = .int .i64 (ltN xs k) ∧ Below w.heap.size w wr) (fun _ _ i _ => n - (intOf i).toNat)
  case atStart => exact ⟨0, by omega, rfl, rfl, Below.refl _ _⟩
  case round =>
    obtain ⟨k, hk, rfl, rfl, hb⟩ := hrel
    by_cases hlt : k < n
    · obtain ⟨ab, o, rfl, hbB, hc⟩ := ((HA.out.below hb).at (by omega))
      have p := hc k hlt
      clear hc
      have hrk : lfK xs k = (xs.getD k zMill).f0 := rfl
      have E := Lib.hid (show ltN xs (k + 1) = min (ltN xs k) (lfK xs k) from rfl)
      obtain ⟨x, hx⟩ : ∃ x, x = xs.getD k zMill := ⟨_, rfl⟩
      rw [← hx] at p hrk
      clear hx
      obtain ⟨x0, x1, x2, x3⟩ := x
      obtain ⟨p0, p1, p2, p3⟩ := p
      simp only at p0 p1 p2 p3 hrk
      obtain ⟨l, hl⟩ : ∃ l, l = ltN xs k := ⟨_, rfl⟩
      rw [hrk, ← hl] at E
      rw [← hl]
      clear hrk hl
      have hz := hb.size
      by_cases hm : l < x0
      · have E3 := Lib.hid (show min l x0 = l by omega)
        go_wp2
        go_roundw
        case rel => exact ⟨k + 1, by omega, by go_num, by (rw [E.out, E3.out]) <;> (first | rfl | (congr 1; split <;> omega)), (by repeat (first | assumption | exact Below.refl _ _ | (refine Below.setCell ?_ (by first | omega | (simp; done) | (simp; omega)) _) | apply below_drewN | apply Below.drew | (refine Below.alloc ?_ (by first | omega | (simp; done) | (simp; omega)) _)))⟩
        case measure => simp [intOf]; omega
      · have E3 := Lib.hid (show min l x0 = x0 by omega)
        go_wp2
        go_roundw
        case rel => exact ⟨k + 1, by omega, by go_num, by (rw [E.out, E3.out]) <;> (first | rfl | (congr 1; split <;> omega)), (by repeat (first | assumption | exact Below.refl _ _ | (refine Below.setCell ?_ (by first | omega | (simp; done) | (simp; omega)) _) | apply below_drewN | apply Below.drew | (refine Below.alloc ?_ (by first | omega | (simp; done) | (simp; omega)) _)))⟩
        case measure => simp [intOf]; omega
    · obtain rfl : k = n := by omega
      rw [← HQ.out]
      go_wp2
      go_ret
      exact ⟨rfl, hb⟩

set_option maxRecDepth 100000 in
set_option maxHeartbeats 1600000 in
theorem specC_TotalLift (a0 : Option Addr) (la0 ca0 : Nat) (xa0 : List (List RMill)) (w : World) (ha0 : totSS xa0 ≤ 1048576) (ra0 : Rd_MillSS w w.heap.size a0 la0 xa0) (fa0 : Wf_MillSS xa0) :
    Calls Try.prog 37 #[.slice a0 la0 ca0] w fun e w' => e = .returned (.tuple #[.int .i64 (r0_TotalLift xa0), .int .i64 (r1_TotalLift xa0)]) ∧ Below w.heap.size w w' := by
  have hln := ra0.1
  have RA := Lib.hid ra0
  clear ra0
  by_cases h : stOk xa0.length xa0
  · obtain ⟨q, hq⟩ : ∃ q, q = r0_TotalLift xa0 := ⟨_, rfl⟩
    have HQ := Lib.hid (show q = tlN xa0 la0 by rw [hq, show r0_TotalLift xa0 = _ from if_pos h, hln])
    have e1 : r1_TotalLift xa0 = 0 := sc4_ok h trivial
    rw [← hq, e1]
    have HS := Lib.hid (show stOk la0 xa0 by rw [← hln]; exact h)
    have HV := Lib.hid (show true = decide (stOk la0 xa0) from (decide_eq_true HS.out).symm)
    have h4 := HS.out.2.2
    clear h e1 hq
    go_enter Try.func37, Try.ntmps37
    go_wp2_with (go_at_call 59; refine (l10All_any _ _ _ xa0 _ ha0 RA.out _ HV.out).mono ?_; rintro e1 W1 ⟨rfl, b1⟩)
    have z1 := b1.size
    go_loopw [4, 5, 6, 7] (fun s i _ _ wr => ∃ k : Nat, k ≤ la0 ∧ i = .int .i64 (k : Int) ∧ s = .int .i64 (tlN xa0 k) ∧ Below w.heap.size w wr) (fun _ i _ _ _ => la0 - (intOf i).toNat)
    case atStart => exact ⟨0, by omega, rfl, rfl, b1⟩
    case round =>
      obtain ⟨k, hk, rfl, rfl, hb⟩ := hrel
      obtain ⟨wo, rfl⟩ : ∃ wo, wo = wr := ⟨_, rfl⟩
      have hz := hb.size
      by_cases hlt : k < la0
      · obtain ⟨b, off, rfl, hB, hc⟩ := RA.out.2 (by omega)
        obtain ⟨A', c', h1, h3⟩ := hc k hlt
        have c1 := (hb.cell (p := ⟨b, off + k, none⟩) hB).trans h1
        have R1 := Lib.hid (h3.below hb)
        have HR := Lib.hid (HS.out.1 k hlt)
        have h8 := HR.out.2.2
        have hge := HR.out.2.1
        obtain ⟨t1, t2⟩ := tlN_bd HS.out.1 k hk
        have HE := Lib.hid (show tlN xa0 (k + 1) = tlN xa0 k + ltN (mGet xa0 k) (mGet xa0 k).length from rfl)
        have l0 := lfK_bd HR.out 0 (by omega)
        clear hc h1 h3
        obtain ⟨xs, hx⟩ : ∃ xs, xs = mGet xa0 k := ⟨_, rfl⟩
        rw [← hx] at c1 R1 HR HE h8 hge l0
        obtain ⟨l, hl9⟩ : ∃ l, l = xs.length := ⟨_, rfl⟩
        have HL9 := Lib.hid hl9
        rw [← hl9] at c1 R1 h8 hge HE
        obtain ⟨tt, htt⟩ : ∃ tt, tt = tlN xa0 k := ⟨_, rfl⟩
        rw [← htt] at t1 t2 HE ⊢
        clear hx hl9 htt
        obtain ⟨ab0, o0, rfl, hbB0, hc0⟩ := R1.out.at (by omega)
        have pp0 := (hc0 0 (by omega)).1
        have hk0 : lfK xs 0 = (xs.getD 0 zMill).f0 := rfl
        rw [← hk0] at pp0
        have E0 := Lib.hid (show ltN xs 1 = lfK xs 0 by simp only [ltN]; omega)
        rw [show o0 + 0 * 4 = o0 by omega] at pp0
        obtain ⟨y0, hy0⟩ : ∃ y0, y0 = lfK xs 0 := ⟨_, rfl⟩
        rw [← hy0] at pp0 E0
        clear hk0 hy0 hc0 l0
        go_wp2
        go_loopw [6, 7] (fun s i wr2 => ∃ q : Nat, 1 ≤ q ∧ q ≤ l ∧ i = .int .i64 (q : Int) ∧ s = .int .i64 (ltN xs q) ∧ wr2 = wo) (fun _ i _ => l - (intOf i).toNat)
        case atStart => exact ⟨1, by omega, by omega, rfl, by rw [E0.out], rfl⟩
        case round =>
          obtain ⟨q, hq1, hq, rfl, rfl, rfl⟩ := hrel
          by_cases hlq : q < l
          · obtain ⟨ab, o, e9, hbB, hc⟩ := R1.out.at (by omega)
            have p := (hc q hlq).1
            obtain ⟨rfl, rfl⟩ : ab0 = ab ∧ o0 = o := by injection e9 with e9; injection e9 with e1 e2; exact ⟨e1, e2⟩
            clear hc e9
            have E := Lib.hid (show ltN xs (q + 1) = min (ltN xs q) (lfK xs q) from rfl)
            have hrk : lfK xs q = (xs.getD q zMill).f0 := rfl
            rw [← hrk] at p
            obtain ⟨x, hx⟩ : ∃ x, x = lfK xs q := ⟨_, rfl⟩
            rw [← hx] at p E
            obtain ⟨m, hm⟩ : ∃ m, m = ltN xs q := ⟨_, rfl⟩
            rw [← hm] at E ⊢
            clear hx hm hrk
            go_wp2_with (go_at_call 75; refine (minM_t _ _ _).mono ?_; rintro e w' ⟨rfl, rfl⟩)
            go_roundw
            case rel => exact ⟨q + 1, by omega, by omega, by go_num, by rw [E.out], by first | rfl | trivial⟩
            case measure => simp [intOf]; omega
          · obtain rfl : q = l := by omega
            have lb := ltN_bd HR.out q (by rw [← HL9.out]; omega)
            obtain ⟨m, hm⟩ : ∃ m, m = ltN xs q := ⟨_, rfl⟩
            rw [← hm] at HE lb ⊢
            clear hm
            have i1 := IntWalk.i64_in (tt + m) (by omega)
            go_wp2
            go_roundw
            case rel => exact ⟨k + 1, by omega, by go_num, by rw [HE.out], hb⟩
            case measure => simp [intOf]; omega
      · obtain rfl : k = la0 := by omega
        rw [← HQ.out]
        go_wp2
        go_ret2
        exact ⟨rfl, hb⟩
  · have e0 : r0_TotalLift xa0 = 0 := if_neg h
    have e1 : r1_TotalLift xa0 = 1 := sc4_bad h
    rw [e0, e1]
    have HV := Lib.hid (show false = decide (stOk la0 xa0) by rw [← hln]; exact (decide_eq_false h).symm)
    clear h e0 e1
    go_enter Try.func37, Try.ntmps37
    go_wp2_with (go_at_call 59; refine (l10All_any _ _ _ xa0 _ ha0 RA.out _ HV.out).mono ?_; rintro e1 W1 ⟨rfl, b1⟩)
    go_ret2
    exact ⟨rfl, b1⟩

set_option maxRecDepth 100000 in
set_option maxHeartbeats 1600000 in
theorem implC_TotalLift (a0 : Option Addr) (la0 ca0 : Nat) (xa0 : List (List RMill)) (w : World) (ha0 : totSS xa0 ≤ 1048576) (ra0 : Rd_MillSS w w.heap.size a0 la0 xa0) (fa0 : Wf_MillSS xa0) :
    Calls Try.prog 38 #[.slice a0 la0 ca0] w fun e w' => e = .returned (.tuple #[.int .i64 (r0_TotalLift xa0), .int .i64 (r1_TotalLift xa0)]) ∧ Below w.heap.size w w' := by
  have hln := ra0.1
  have RA := Lib.hid ra0
  clear ra0
  by_cases h : stOk xa0.length xa0
  · obtain ⟨q, hq⟩ : ∃ q, q = r0_TotalLift xa0 := ⟨_, rfl⟩
    have HQ := Lib.hid (show q = tlN xa0 la0 by rw [hq, show r0_TotalLift xa0 = _ from if_pos h, hln])
    have e1 : r1_TotalLift xa0 = 0 := sc4_ok h trivial
    rw [← hq, e1]
    have HS := Lib.hid (show stOk la0 xa0 by rw [← hln]; exact h)
    have HC := Lib.hid (show sc4 (stOk la0 xa0) True = 0 from sc4_ok HS.out trivial)
    have h4 := HS.out.2.2
    clear h e1 hq
    go_enter Try.func38, Try.ntmps38
    go_wp2_with (first | (go_at_call 68; refine (stagesCode_t _ _ _ xa0 _ True _ ha0 RA.out (by simp) 0 HC.out).mono ?_; rintro e1 w1 ⟨rfl, b1⟩) | (go_at_call 70; refine (stagesOf_t _ la0 _ xa0 _ (by omega) ((RA.out.below b1).mono b1.size)).mono ?_; rintro e2 W2 ⟨B2, d2, rfl, b2, x2⟩; have d9 : Below w.heap.size w W2 := b1.trans (b2.mono b1.size)))
    have z9 := d9.size
    have X2 := Lib.hid x2
    go_loopw [5, 7, 16] (fun s _ i wr => ∃ k : Nat, k ≤ la0 ∧ i = .int .i64 (k : Int) ∧ s = .int .i64 (tlN xa0 k) ∧ Below W2.heap.size W2 wr) (fun _ _ i _ => la0 - (intOf i).toNat)
    case atStart => exact ⟨0, by omega, rfl, rfl, Below.refl _ _⟩
    case round =>
      obtain ⟨k, hk, rfl, rfl, hb⟩ := hrel
      have hz := hb.size
      by_cases hlt : k < la0
      · obtain ⟨b, off, rfl, hB, hc⟩ := X2.out.2 (by omega)
        obtain ⟨A', c', h1, h3⟩ := hc k hlt
        have c1 := (hb.cell (p := ⟨b, off + k, none⟩) hB).trans h1
        have R1 := Lib.hid (Rd_Mill.mono (h3.below hb) hz)
        have HR := Lib.hid (HS.out.1 k hlt)
        obtain ⟨t1, t2⟩ := tlN_bd HS.out.1 k hk
        have HE := Lib.hid (show tlN xa0 (k + 1) = tlN xa0 k + ltN (mGet xa0 k) (mGet xa0 k).length from rfl)
        have lb := ltN_bd HR.out (mGet xa0 k).length (Nat.le_refl _)
        clear hc h1 h3
        obtain ⟨xs, hx⟩ : ∃ xs, xs = mGet xa0 k := ⟨_, rfl⟩
        rw [← hx] at c1 R1 HR HE lb
        obtain ⟨l, hl9⟩ : ∃ l, l = xs.length := ⟨_, rfl⟩
        rw [← hl9] at c1 R1 HE lb
        obtain ⟨tt, htt⟩ : ∃ tt, tt = tlN xa0 k := ⟨_, rfl⟩
        rw [← htt] at t1 t2 HE ⊢
        obtain ⟨m, hm⟩ : ∃ m, m = ltN xs l := ⟨_, rfl⟩
        rw [← hm] at HE lb
        have HM := Lib.hid hm
        clear hx hl9 htt hm
        have i1 := IntWalk.i64_in (tt + m) (by omega)
        go_wp2_with (go_at_call 76; refine (lift_t A' l c' xs _ R1.out HR.out m HM.out).mono ?_; rintro e3 w3 ⟨rfl, b3⟩)
        go_roundw
        case rel => exact ⟨k + 1, by omega, by go_num, by rw [HE.out], hb.trans (b3.mono hz)⟩
        case measure => simp [intOf]; omega
      · obtain rfl : k = la0 := by omega
        rw [← HQ.out]
        go_wp2
        go_ret2
        exact ⟨rfl, d9.trans (hb.mono z9)⟩
  · have e0 : r0_TotalLift xa0 = 0 := if_neg h
    have e1 : r1_TotalLift xa0 = 1 := sc4_bad h
    rw [e0, e1]
    have HC := Lib.hid (show sc4 (stOk la0 xa0) True = 1 by rw [← hln]; exact sc4_bad h)
    clear h e0 e1
    go_enter Try.func38, Try.ntmps38
    go_wp2_with (first | (go_at_call 68; refine (stagesCode_t _ _ _ xa0 _ True _ ha0 RA.out (by simp) 1 HC.out).mono ?_; rintro e1 w1 ⟨rfl, b1⟩))
    go_ret2
    exact ⟨rfl, b1⟩

end Go.Proofs.Ytlkgbemlagfdjaa
