import Derived.Test.YtlibmlbefboolaaNetC
import Derived.Test.YtlibmlbefboolaaHas
import Derived.Test.YtlibmlbefboolaaRise
namespace Go.Proofs.Ytlibmlbefboolaa
open Go.RowKit

def r0_CutFlow (a0_0 : Int) (xa0_1 : List RDitch) (xa1 : List Int) : Int := if NetOk a0_0 xa0_1 ∧ Side a0_0 xa1 then cutOf xa0_1 xa1 xa0_1.length else 0
def r1_CutFlow (a0_0 : Int) (xa0_1 : List RDitch) (xa1 : List Int) : Int := ncode a0_0 xa0_1 (Side a0_0 xa1)

/-- whether a number is a junction, as the program reckons it, whatever the number of junctions is -/
def jB (J j : Int) : Bool := decide (0 ≤ j) && decide (j ≤ wrap64 (J - 1))
theorem jB_t {J j : Int} (h : 0 ≤ j ∧ j ≤ wrap64 (J - 1)) : true = jB J j := by simp [jB, h.1, h.2]
theorem jB_f {J j : Int} (h : ¬ (0 ≤ j ∧ j ≤ wrap64 (J - 1))) : false = jB J j := by
  unfold jB
  rw [← Bool.decide_and]
  exact (decide_eq_false h).symm
set_option maxHeartbeats 800000 in
theorem hasJ_w (J j : Int) (A : Option Addr) (n k : Nat) (w : World) (v : Bool) (hv : v = jB J j) :
    Calls Try.prog 53 #[.agg #[.int .i64 J, .slice A n k], .int .i64 j] w fun e w' => e = .returned (.bool v) ∧ Below w.heap.size w w' := by
  have HV := Lib.hid hv
  clear hv
  go_enter Try.func53, Try.ntmps53
  go_wp2_with (first | (go_at_call 38; refine (within_any _ _ _ _).mono ?_; rintro e w' ⟨rfl, rfl⟩))
  go_ret
  exact ⟨ret_bool HV.out.symm, (by repeat (first | assumption | exact Below.refl _ _ | (refine Below.setCell ?_ (by first | omega | (simp; done) | (simp; omega)) _) | apply below_drewN | apply Below.drew | (refine Below.alloc ?_ (by first | omega | (simp; done) | (simp; omega)) _)))⟩
theorem side_w {J : Int} {ys : List Int} (hJ : 2 ≤ J ∧ J ≤ 10) : (∀ j, j < ys.length → stepOk 0 (wrap64 (J - 1)) ys j) ↔ Side J ys := by
  have : wrap64 (J - 1) = J - 1 := IntWalk.wrap64_in _ (by omega)
  rw [this]
  exact Iff.rfl

set_option maxHeartbeats 1600000 in
theorem hasSide_t (J : Int) (A0 : Option Addr) (n0 k0 : Nat) (A : Option Addr) (n c : Nat) (ys : List Int) (w : World) (hn : n ≤ 1048576) (ha : Rd w w.heap.size A n ys) (v : Bool) (hv : v = decide (∀ j, j < ys.length → stepOk 0 (wrap64 (J - 1)) ys j)) :
    Calls Try.prog 42 #[.agg #[.int .i64 J, .slice A0 n0 k0], .slice A n c] w fun e w' => e = .returned (.bool v) ∧ Below w.heap.size w w' := by
  have HA := Lib.hid ha
  have HV := Lib.hid hv
  clear ha hv
  go_enter Try.func42, Try.ntmps42
  go_wp2_with (go_at_call 56; refine (areInc_t _ _ _ ys _ _ _ hn ((HA.out.below (by repeat (first | assumption | exact Below.refl _ _ | (refine Below.setCell ?_ (by first | omega | (simp; done) | (simp; omega)) _) | apply below_drewN | apply Below.drew | (refine Below.alloc ?_ (by first | omega | (simp; done) | (simp; omega)) _)))).mono (by first | omega | (simp; done) | (simp; omega))) v HV.out).mono ?_; rintro e1 W1 ⟨rfl, b1⟩)
  go_ret
  exact ⟨rfl, (by repeat (first | assumption | exact Below.refl _ _ | (refine Below.trans ?_ (b1.mono (by first | omega | (simp; done) | (simp; omega)))) | (refine Below.setCell ?_ (by first | omega | (simp; done) | (simp; omega)) _) | apply below_drewN | apply Below.drew | (refine Below.alloc ?_ (by first | omega | (simp; done) | (simp; omega)) _)))⟩

/-- the cases of one ditch of a cut -/
theorem cut_bd (xs : List RDitch) (ys : List Int) {J : Int} (h : NetOk J xs) {k : Nat} (hk : k ≤ xs.length) : 0 ≤ cutOf xs ys k ∧ cutOf xs ys k ≤ 20000 := by
  have h1 := cutOf_bd ys h.2.2 k hk
  have h2 := h.2.1
  omega

set_option maxHeartbeats 1600000 in
theorem l04Cut_t (b : Nat) (J : Int) (A0 : Option Addr) (n0 k0 : Nat) (xs : List RDitch) (A : Option Addr) (n c : Nat) (ys : List Int) (w : World) (hn0 : n0 ≤ 1048576) (hn : n ≤ 1048576) (hl : NetAt w b J A0 n0 k0) (hx : Rd_Ditch w w.heap.size A0 n0 xs) (ha : Rd w w.heap.size A n ys) (hok : NetOk J xs) :
    Calls Try.prog 41 #[.pointer (some ⟨b, 0, none⟩), .slice A n c] w fun e w' => e = .returned (.int .i64 (cutOf xs ys xs.length)) ∧ w = w' := by
  have hln := hx.len
  have HX := Lib.hid hx
  have HA := Lib.hid ha
  have HK := Lib.hid hok
  obtain ⟨c0, c1⟩ := hl
  clear hx ha hok
  have HLN := Lib.hid hln
  clear hln
  go_enter Try.func41, Try.ntmps41
  go_wp2
  go_loop [5, 6] (fun s i => ∃ q : Nat, q ≤ n0 ∧ i = .int .i64 (q : Int) ∧ s = .int .i64 (cutOf xs ys q)) (fun _ i => n0 - (intOf i).toNat)
  case atStart => exact ⟨0, by omega, rfl, rfl⟩
  case round =>
    obtain ⟨q, hq, rfl, rfl⟩ := hrel
    obtain ⟨u1, u2⟩ := cut_bd xs ys HK.out (k := q) (by rw [HLN.out]; exact hq)
    by_cases hlt : q < n0
    · obtain ⟨ab, o, rfl, hB, hc⟩ := HX.out.at (by omega)
      have p := hc q hlt
      clear hc
      have hd := HK.out.2.2 q (by rw [HLN.out]; exact hlt)
      obtain ⟨x, hx⟩ := getZ xs q
      rw [← hx] at p hd
      have HE := Lib.hid hx
      clear hx
      obtain ⟨y0, y1, y2⟩ := x
      obtain ⟨p0, p1, p2⟩ := p
      obtain ⟨_, _, _, hd1, hd2⟩ := hd
      simp only at p0 p1 p2 hd1 hd2
      by_cases h0 : y0 ∈ ys
      · have t0 : true = decide (y0 ∈ ys) := (decide_eq_true h0).symm
        have T0 := Lib.hid t0
        clear t0
        by_cases h1 : y1 ∈ ys
        · have t1 : true = decide (y1 ∈ ys) := (decide_eq_true h1).symm
          have T1 := Lib.hid t1
          have e2 : cutOf xs ys (q + 1) = cutOf xs ys q := cutOf_no (by rw [← HE.out]; exact fun h => h.2 h1)
          have E2 := Lib.hid e2
          clear t1 e2 h0 h1
          go_wp2_with fail
          refine (l00Has_t _ _ _ ys _ _ hn HA.out true T0.out).mono ?_
          rintro e1 W1 ⟨rfl, rfl⟩
          go_wp2_with fail
          refine (l00Has_t _ _ _ ys _ _ hn HA.out true T1.out).mono ?_
          rintro e1 W1 ⟨rfl, rfl⟩
          go_wp2
          go_round
          case rel => exact ⟨q + 1, by omega, by go_num, by rw [E2.out]⟩
          case measure => simp [intOf]; omega
        · have t1 : false = decide (y1 ∈ ys) := (decide_eq_false h1).symm
          have T1 := Lib.hid t1
          have e2 : cutOf xs ys (q + 1) = cutOf xs ys q + y2 := by
            have := cutOf_yes (xs := xs) (ys := ys) (k := q) (by rw [← HE.out]; exact ⟨h0, h1⟩)
            rw [this, ← HE.out]
          have E2 := Lib.hid e2
          clear t1 e2 h0 h1
          go_wp2_with fail
          refine (l00Has_t _ _ _ ys _ _ hn HA.out true T0.out).mono ?_
          rintro e1 W1 ⟨rfl, rfl⟩
          go_wp2_with fail
          refine (l00Has_t _ _ _ ys _ _ hn HA.out false T1.out).mono ?_
          rintro e1 W1 ⟨rfl, rfl⟩
          go_wp2
          go_round
          case rel => exact ⟨q + 1, by omega, by go_num, by rw [E2.out]⟩
          case measure => simp [intOf]; omega
      · have t0 : false = decide (y0 ∈ ys) := (decide_eq_false h0).symm
        have T0 := Lib.hid t0
        have e2 : cutOf xs ys (q + 1) = cutOf xs ys q := cutOf_no (by rw [← HE.out]; exact fun h => h0 h.1)
        have E2 := Lib.hid e2
        clear t0 e2 h0
        go_wp2_with fail
        refine (l00Has_t _ _ _ ys _ _ hn HA.out false T0.out).mono ?_
        rintro e1 W1 ⟨rfl, rfl⟩
        go_wp2
        go_round
        case rel => exact ⟨q + 1, by omega, by go_num, by rw [E2.out]⟩
        case measure => simp [intOf]; omega
    · obtain rfl : q = n0 := by omega
      go_wp2
      go_ret
      exact ⟨ret_int (by rw [HLN.out]), rfl⟩

set_option maxHeartbeats 1600000 in
theorem cut_t (J : Int) (A0 : Option Addr) (n0 k0 : Nat) (xs : List RDitch) (A : Option Addr) (n c : Nat) (ys : List Int) (w : World) (hn0 : n0 ≤ 1048576) (hn : n ≤ 1048576) (hx : Rd_Ditch w w.heap.size A0 n0 xs) (ha : Rd w w.heap.size A n ys) (hok : NetOk J xs) :
    Calls Try.prog 43 #[.agg #[.int .i64 J, .slice A0 n0 k0], .slice A n c] w fun e w' => e = .returned (.int .i64 (cutOf xs ys xs.length)) ∧ Below w.heap.size w w' := by
  have hln := hx.len
  have HX := Lib.hid hx
  have HA := Lib.hid ha
  have HK := Lib.hid hok
  clear hx ha hok
  have HLN := Lib.hid hln
  clear hln
  go_enter Try.func43, Try.ntmps43
  go_wp2
  go_loopw [5, 7, 11] (fun s _ i wr => ∃ q : Nat, q ≤ n0 ∧ i = .int .i64 (q : Int) ∧ s = .int .i64 (cutOf xs ys q) ∧ Below w.heap.size w wr) (fun _ _ i _ => n0 - (intOf i).toNat)
  case atStart => exact ⟨0, by omega, rfl, rfl, (by repeat (first | assumption | exact Below.refl _ _ | (refine Below.setCell ?_ (by first | omega | (simp; done) | (simp; omega)) _) | apply below_drewN | apply Below.drew | (refine Below.alloc ?_ (by first | omega | (simp; done) | (simp; omega)) _)))⟩
  case round =>
    obtain ⟨q, hq, rfl, rfl, hb⟩ := hrel
    obtain ⟨u1, u2⟩ := cut_bd xs ys HK.out (k := q) (by rw [HLN.out]; exact hq)
    have hsz := hb.size
    by_cases hlt : q < n0
    · obtain ⟨ab, o, rfl, hB, hc⟩ := (HX.out.below hb).at (by omega)
      have p := hc q hlt
      clear hc
      have hd := HK.out.2.2 q (by rw [HLN.out]; exact hlt)
      obtain ⟨x, hx⟩ := getZ xs q
      rw [← hx] at p hd
      have HE := Lib.hid hx
      clear hx
      obtain ⟨y0, y1, y2⟩ := x
      obtain ⟨p0, p1, p2⟩ := p
      obtain ⟨_, _, _, hd1, hd2⟩ := hd
      simp only at p0 p1 p2 hd1 hd2
      by_cases h0 : y0 ∈ ys
      · have t0 : true = decide (y0 ∈ ys) := (decide_eq_true h0).symm
        have T0 := Lib.hid t0
        clear t0
        by_cases h1 : y1 ∈ ys
        · have t1 : true = decide (y1 ∈ ys) := (decide_eq_true h1).symm
          have T1 := Lib.hid t1
          have e2 : cutOf xs ys (q + 1) = cutOf xs ys q := cutOf_no (by rw [← HE.out]; exact fun h => h.2 h1)
          have E2 := Lib.hid e2
          clear t1 e2 h0 h1
          go_wp2_with fail
          refine (slHas_t _ _ _ ys _ _ hn (((HA.out.below hb).below (by repeat (first | assumption | exact Below.refl _ _ | (refine Below.setCell ?_ (by first | omega | (simp; done) | (simp; omega)) _) | apply below_drewN | apply Below.drew | (refine Below.alloc ?_ (by first | omega | (simp; done) | (simp; omega)) _)))).mono (by first | omega | (simp; done) | (simp; omega))) true T0.out).mono ?_
          rintro e1 W1 ⟨rfl, rfl⟩
          go_wp2_with fail
          refine (slHas_t _ _ _ ys _ _ hn (((HA.out.below hb).below (by repeat (first | assumption | exact Below.refl _ _ | (refine Below.setCell ?_ (by first | omega | (simp; done) | (simp; omega)) _) | apply below_drewN | apply Below.drew | (refine Below.alloc ?_ (by first | omega | (simp; done) | (simp; omega)) _)))).mono (by first | omega | (simp; done) | (simp; omega))) true T1.out).mono ?_
          rintro e1 W1 ⟨rfl, rfl⟩
          go_wp2
          go_roundw
          case rel => exact ⟨q + 1, by omega, by go_num, by rw [E2.out], (by repeat (first | assumption | exact Below.refl _ _ | (refine Below.setCell ?_ (by first | omega | (simp; done) | (simp; omega)) _) | apply below_drewN | apply Below.drew | (refine Below.alloc ?_ (by first | omega | (simp; done) | (simp; omega)) _)))⟩
          case measure => simp [intOf]; omega
        · have t1 : false = decide (y1 ∈ ys) := (decide_eq_false h1).symm
          have T1 := Lib.hid t1
          have e2 : cutOf xs ys (q + 1) = cutOf xs ys q + y2 := by
            have := cutOf_yes (xs := xs) (ys := ys) (k := q) (by rw [← HE.out]; exact ⟨h0, h1⟩)
            rw [this, ← HE.out]
          have E2 := Lib.hid e2
          clear t1 e2 h0 h1
          go_wp2_with fail
          refine (slHas_t _ _ _ ys _ _ hn (((HA.out.below hb).below (by repeat (first | assumption | exact Below.refl _ _ | (refine Below.setCell ?_ (by first | omega | (simp; done) | (simp; omega)) _) | apply below_drewN | apply Below.drew | (refine Below.alloc ?_ (by first | omega | (simp; done) | (simp; omega)) _)))).mono (by first | omega | (simp; done) | (simp; omega))) true T0.out).mono ?_
          rintro e1 W1 ⟨rfl, rfl⟩
          go_wp2_with fail
          refine (slHas_t _ _ _ ys _ _ hn (((HA.out.below hb).below (by repeat (first | assumption | exact Below.refl _ _ | (refine Below.setCell ?_ (by first | omega | (simp; done) | (simp; omega)) _) | apply below_drewN | apply Below.drew | (refine Below.alloc ?_ (by first | omega | (simp; done) | (simp; omega)) _)))).mono (by first | omega | (simp; done) | (simp; omega))) false T1.out).mono ?_
          rintro e1 W1 ⟨rfl, rfl⟩
          go_wp2
          go_roundw
          case rel => exact ⟨q + 1, by omega, by go_num, by rw [E2.out], (by repeat (first | assumption | exact Below.refl _ _ | (refine Below.setCell ?_ (by first | omega | (simp; done) | (simp; omega)) _) | apply below_drewN | apply Below.drew | (refine Below.alloc ?_ (by first | omega | (simp; done) | (simp; omega)) _)))⟩
          case measure => simp [intOf]; omega
      · have t0 : false = decide (y0 ∈ ys) := (decide_eq_false h0).symm
        have T0 := Lib.hid t0
        have e2 : cutOf xs ys (q + 1) = cutOf xs ys q := cutOf_no (by rw [← HE.out]; exact fun h => h0 h.1)
        have E2 := Lib.hid e2
        clear t0 e2 h0
        go_wp2_with fail
        refine (slHas_t _ _ _ ys _ _ hn (((HA.out.below hb).below (by repeat (first | assumption | exact Below.refl _ _ | (refine Below.setCell ?_ (by first | omega | (simp; done) | (simp; omega)) _) | apply below_drewN | apply Below.drew | (refine Below.alloc ?_ (by first | omega | (simp; done) | (simp; omega)) _)))).mono (by first | omega | (simp; done) | (simp; omega))) false T0.out).mono ?_
        rintro e1 W1 ⟨rfl, rfl⟩
        go_wp2
        go_roundw
        case rel => exact ⟨q + 1, by omega, by go_num, by rw [E2.out], (by repeat (first | assumption | exact Below.refl _ _ | (refine Below.setCell ?_ (by first | omega | (simp; done) | (simp; omega)) _) | apply below_drewN | apply Below.drew | (refine Below.alloc ?_ (by first | omega | (simp; done) | (simp; omega)) _)))⟩
        case measure => simp [intOf]; omega
    · obtain rfl : q = n0 := by omega
      go_wp2
      go_ret
      exact ⟨ret_int (by rw [HLN.out]), hb⟩

theorem cf_yes {J : Int} {xs : List RDitch} {ys : List Int} (h : NetOk J xs ∧ Side J ys) : r0_CutFlow J xs ys = cutOf xs ys xs.length ∧ r1_CutFlow J xs ys = 0 := ⟨if_pos h, ncode_ok h.1 h.2⟩
theorem cf_no {J : Int} {xs : List RDitch} {ys : List Int} (h : ¬ (NetOk J xs ∧ Side J ys)) : r0_CutFlow J xs ys = 0 := if_neg h

set_option maxHeartbeats 1600000 in
theorem specC_CutFlow (a0_0 : Int) (a0_1 : Option Addr) (la0_1 ca0_1 : Nat) (xa0_1 : List RDitch) (a1 : Option Addr) (la1 ca1 : Nat) (xa1 : List Int) (w : World) (ha0_0 : (Lit.int .i64 a0_0).wf = true) (ha0_1 : la0_1 ≤ 1048576) (ra0_1 : Rd_Ditch w w.heap.size a0_1 la0_1 xa0_1) (fa0_1 : Wf_Ditch xa0_1) (ha1 : la1 ≤ 1048576) (ra1 : Rd w w.heap.size a1 la1 xa1) (fa1 : Wf xa1) :
    Calls Try.prog 18 #[.agg #[.int .i64 a0_0, .slice a0_1 la0_1 ca0_1], .slice a1 la1 ca1] w fun e w' => e = .returned (.tuple #[.int .i64 (r0_CutFlow a0_0 xa0_1 xa1), .int .i64 (r1_CutFlow a0_0 xa0_1 xa1)]) ∧ Below w.heap.size w w' := by
  have RA := Lib.hid ra0_1
  have RB := Lib.hid ra1
  clear ra0_1 ra1
  by_cases hv : NetOk a0_0 xa0_1
  · have HV := Lib.hid hv
    have hJ := hv.1
    have hj1 := hJ.1
    have hj2 := hJ.2
    by_cases hs : Side a0_0 xa1
    · obtain ⟨e0, e1⟩ := cf_yes ⟨hv, hs⟩
      rw [e0, e1]
      have hs' : true = decide (∀ j, j < xa1.length → stepOk 0 (a0_0 - 1) xa1 j) := (decide_eq_true hs).symm
      have HS := Lib.hid hs'
      clear e0 e1 hv hs hs' hJ
      go_enter Try.func18, Try.ntmps18
      go_wp2_with (go_at_call 27; refine (l04Ok_any _ a0_0 a0_1 la0_1 ca0_1 xa0_1 _ (by simp) ha0_1 ⟨by simp, by simp⟩ ((RA.out.below (by repeat (first | assumption | exact Below.refl _ _ | (refine Below.setCell ?_ (by first | omega | (simp; done) | (simp; omega)) _) | apply below_drewN | apply Below.drew | (refine Below.alloc ?_ (by first | omega | (simp; done) | (simp; omega)) _)))).mono (by first | omega | (simp; done) | (simp; omega))) true (by simp [HV.out])).mono ?_; rintro e w1 ⟨rfl, b1⟩; have s1 : w.heap.size < w1.heap.size := (by have := b1.size; simp at this; omega); obtain ⟨k1, f1⟩ := bcell b1; have z0 : w1.cell? ⟨w.heap.size, 0, none⟩ = some (.int .i64 a0_0) := (by rw [k1 _ _ (by first | omega | (simp; done) | (simp; omega))]; first | (simp; done) | go_simp); have zf0 : w1.frozen? ⟨w.heap.size, 0, none⟩ = false := (by rw [f1 _ _ (by first | omega | (simp; done) | (simp; omega))]; first | (simp; done) | go_simp); have z1 : w1.cell? ⟨w.heap.size, 1, none⟩ = some (.slice a0_1 la0_1 ca0_1) := (by rw [k1 _ _ (by first | omega | (simp; done) | (simp; omega))]; first | (simp; done) | go_simp); have zf1 : w1.frozen? ⟨w.heap.size, 1, none⟩ = false := (by rw [f1 _ _ (by first | omega | (simp; done) | (simp; omega))]; first | (simp; done) | go_simp); clear k1 f1; have d1 : Below w.heap.size w w1 := (by repeat (first | assumption | exact Below.refl _ _ | (refine Below.trans ?_ (b1.mono (by first | omega | (simp; done) | (simp; omega)))) | (refine Below.setCell ?_ (by first | omega | (simp; done) | (simp; omega)) _) | apply below_drewN | apply Below.drew | (refine Below.alloc ?_ (by first | omega | (simp; done) | (simp; omega)) _))))
      go_wp2_with (go_at_call 40; refine (l00Rises_t _ _ _ xa1 _ _ _ ha1 ((RB.out.below d1).mono (by first | omega | (simp; done) | (simp; omega))) true HS.out).mono ?_; rintro e w2 ⟨rfl, b2⟩; have s2 : w.heap.size < w2.heap.size := (by have := b2.size; omega); have y0 : w2.cell? ⟨w.heap.size, 0, none⟩ = _ := (b2.cell (p := ⟨w.heap.size, 0, none⟩) (show w.heap.size < _ from (by first | omega | (simp; done) | (simp; omega)))).trans z0; have yf0 : w2.frozen? ⟨w.heap.size, 0, none⟩ = _ := (b2.frozen (p := ⟨w.heap.size, 0, none⟩) (show w.heap.size < _ from (by first | omega | (simp; done) | (simp; omega)))).trans zf0; have y1 : w2.cell? ⟨w.heap.size, 1, none⟩ = _ := (b2.cell (p := ⟨w.heap.size, 1, none⟩) (show w.heap.size < _ from (by first | omega | (simp; done) | (simp; omega)))).trans z1; have yf1 : w2.frozen? ⟨w.heap.size, 1, none⟩ = _ := (b2.frozen (p := ⟨w.heap.size, 1, none⟩) (show w.heap.size < _ from (by first | omega | (simp; done) | (simp; omega)))).trans zf1; have d2 : Below w.heap.size w w2 := (by repeat (first | assumption | exact Below.refl _ _ | (refine Below.trans ?_ (b2.mono (by first | omega | (simp; done) | (simp; omega)))) | (refine Below.trans ?_ (d1.mono (by first | omega | (simp; done) | (simp; omega)))) | (refine Below.setCell ?_ (by first | omega | (simp; done) | (simp; omega)) _) | apply below_drewN | apply Below.drew | (refine Below.alloc ?_ (by first | omega | (simp; done) | (simp; omega)) _))))
      go_wp2_with (go_at_call 41; refine (l04Cut_t _ a0_0 a0_1 la0_1 ca0_1 xa0_1 _ _ _ xa1 _ ha0_1 ha1 ⟨y0, y1⟩ ((RA.out.below d2).mono (by first | omega | (simp; done) | (simp; omega))) ((RB.out.below d2).mono (by first | omega | (simp; done) | (simp; omega))) HV.out).mono ?_; rintro e w3 ⟨rfl, rfl⟩)
      go_ret2
      exact ⟨rfl, d2⟩
    · have e0 := cf_no (xs := xa0_1) (fun h => hs h.2)
      have e1 : r1_CutFlow a0_0 xa0_1 xa1 = 2 := ncode_no hv hs
      rw [e0, e1]
      have hs' : false = decide (∀ j, j < xa1.length → stepOk 0 (a0_0 - 1) xa1 j) := (decide_eq_false hs).symm
      have HS := Lib.hid hs'
      clear e0 e1 hv hs hs' hJ
      go_enter Try.func18, Try.ntmps18
      go_wp2_with (go_at_call 27; refine (l04Ok_any _ a0_0 a0_1 la0_1 ca0_1 xa0_1 _ (by simp) ha0_1 ⟨by simp, by simp⟩ ((RA.out.below (by repeat (first | assumption | exact Below.refl _ _ | (refine Below.setCell ?_ (by first | omega | (simp; done) | (simp; omega)) _) | apply below_drewN | apply Below.drew | (refine Below.alloc ?_ (by first | omega | (simp; done) | (simp; omega)) _)))).mono (by first | omega | (simp; done) | (simp; omega))) true (by simp [HV.out])).mono ?_; rintro e w1 ⟨rfl, b1⟩; have s1 : w.heap.size < w1.heap.size := (by have := b1.size; simp at this; omega); obtain ⟨k1, f1⟩ := bcell b1; have z0 : w1.cell? ⟨w.heap.size, 0, none⟩ = some (.int .i64 a0_0) := (by rw [k1 _ _ (by first | omega | (simp; done) | (simp; omega))]; first | (simp; done) | go_simp); have zf0 : w1.frozen? ⟨w.heap.size, 0, none⟩ = false := (by rw [f1 _ _ (by first | omega | (simp; done) | (simp; omega))]; first | (simp; done) | go_simp); have z1 : w1.cell? ⟨w.heap.size, 1, none⟩ = some (.slice a0_1 la0_1 ca0_1) := (by rw [k1 _ _ (by first | omega | (simp; done) | (simp; omega))]; first | (simp; done) | go_simp); have zf1 : w1.frozen? ⟨w.heap.size, 1, none⟩ = false := (by rw [f1 _ _ (by first | omega | (simp; done) | (simp; omega))]; first | (simp; done) | go_simp); clear k1 f1; have d1 : Below w.heap.size w w1 := (by repeat (first | assumption | exact Below.refl _ _ | (refine Below.trans ?_ (b1.mono (by first | omega | (simp; done) | (simp; omega)))) | (refine Below.setCell ?_ (by first | omega | (simp; done) | (simp; omega)) _) | apply below_drewN | apply Below.drew | (refine Below.alloc ?_ (by first | omega | (simp; done) | (simp; omega)) _))))
      go_wp2_with (go_at_call 40; refine (l00Rises_t _ _ _ xa1 _ _ _ ha1 ((RB.out.below d1).mono (by first | omega | (simp; done) | (simp; omega))) false HS.out).mono ?_; rintro e w2 ⟨rfl, b2⟩; have d2 : Below w.heap.size w w2 := (by repeat (first | assumption | exact Below.refl _ _ | (refine Below.trans ?_ (b2.mono (by first | omega | (simp; done) | (simp; omega)))) | (refine Below.trans ?_ (d1.mono (by first | omega | (simp; done) | (simp; omega)))) | (refine Below.setCell ?_ (by first | omega | (simp; done) | (simp; omega)) _) | apply below_drewN | apply Below.drew | (refine Below.alloc ?_ (by first | omega | (simp; done) | (simp; omega)) _))))
      go_ret2
      exact ⟨rfl, d2⟩
  · have e0 := cf_no (ys := xa1) (fun h => hv h.1)
    have e1 : r1_CutFlow a0_0 xa0_1 xa1 = 1 := ncode_bad hv
    rw [e0, e1]
    have HV := Lib.hid hv
    clear e0 e1 hv
    go_enter Try.func18, Try.ntmps18
    go_wp2_with (go_at_call 27; refine (l04Ok_any _ a0_0 a0_1 la0_1 ca0_1 xa0_1 _ (by simp) ha0_1 ⟨by simp, by simp⟩ ((RA.out.below (by repeat (first | assumption | exact Below.refl _ _ | (refine Below.setCell ?_ (by first | omega | (simp; done) | (simp; omega)) _) | apply below_drewN | apply Below.drew | (refine Below.alloc ?_ (by first | omega | (simp; done) | (simp; omega)) _)))).mono (by first | omega | (simp; done) | (simp; omega))) false (by simp [HV.out])).mono ?_; rintro e w1 ⟨rfl, b1⟩)
    go_ret2
    exact ⟨rfl, (by repeat (first | assumption | exact Below.refl _ _ | (refine Below.trans ?_ (b1.mono (by first | omega | (simp; done) | (simp; omega)))) | (refine Below.setCell ?_ (by first | omega | (simp; done) | (simp; omega)) _) | apply below_drewN | apply Below.drew | (refine Below.alloc ?_ (by first | omega | (simp; done) | (simp; omega)) _)))⟩

set_option maxHeartbeats 1600000 in
theorem implC_CutFlow (a0_0 : Int) (a0_1 : Option Addr) (la0_1 ca0_1 : Nat) (xa0_1 : List RDitch) (a1 : Option Addr) (la1 ca1 : Nat) (xa1 : List Int) (w : World) (ha0_0 : (Lit.int .i64 a0_0).wf = true) (ha0_1 : la0_1 ≤ 1048576) (ra0_1 : Rd_Ditch w w.heap.size a0_1 la0_1 xa0_1) (fa0_1 : Wf_Ditch xa0_1) (ha1 : la1 ≤ 1048576) (ra1 : Rd w w.heap.size a1 la1 xa1) (fa1 : Wf xa1) :
    Calls Try.prog 20 #[.agg #[.int .i64 a0_0, .slice a0_1 la0_1 ca0_1], .slice a1 la1 ca1] w fun e w' => e = .returned (.tuple #[.int .i64 (r0_CutFlow a0_0 xa0_1 xa1), .int .i64 (r1_CutFlow a0_0 xa0_1 xa1)]) ∧ Below w.heap.size w w' := by
  have RA := Lib.hid ra0_1
  have RB := Lib.hid ra1
  clear ra0_1 ra1
  obtain ⟨vs, hvs⟩ : ∃ v, v = decide (∀ j, j < xa1.length → stepOk 0 (wrap64 (a0_0 - 1)) xa1 j) := ⟨_, rfl⟩
  have hps : NetOk a0_0 xa0_1 → vs = decide (Side a0_0 xa1) := fun h => hvs.trans (decide_eq_decide.2 (side_w h.1))
  have VS := Lib.hid hvs
  have PS := Lib.hid hps
  clear hvs hps
  by_cases h : NetOk a0_0 xa0_1 ∧ Side a0_0 xa1
  · obtain ⟨e0, e1⟩ := cf_yes h
    rw [e0, e1]
    have ec : ncode a0_0 xa0_1 (Side a0_0 xa1) = 0 := e1
    have EC := Lib.hid ec
    have HV := Lib.hid h.1
    clear e0 e1 ec h
    go_enter Try.func20, Try.ntmps20
    go_wp2_with fail
    go_region_held3 (fun w' => w'.cell? ⟨w.heap.size, 0, none⟩ = some (.int .i64 a0_0) ∧ w'.cell? ⟨w.heap.size, 1, none⟩ = some (.slice a0_1 la0_1 ca0_1)) (go_keep)
      (first | (go_at_call 42; refine (hasSide_t _ _ _ _ _ _ _ xa1 _ ha1 ((RB.out.below (by repeat (first | assumption | exact Below.refl _ _ | (refine Below.setCell ?_ (by first | omega | (simp; done) | (simp; omega)) _) | apply below_drewN | apply Below.drew | (refine Below.alloc ?_ (by first | omega | (simp; done) | (simp; omega)) _)))).mono (by first | omega | (simp; done) | (simp; omega))) vs VS.out).mono ?_; rintro e1 W1 ⟨rfl, b1⟩; have s1 : w.heap.size < W1.heap.size := (by have := b1.size; simp at this; omega); obtain ⟨k1, f1⟩ := bcell b1) | (go_at_call 30; refine (netCode_t _ _ _ _ xa0_1 _ (Side a0_0 xa1) _ ha0_1 ((RA.out.below (by repeat (first | assumption | exact Below.refl _ _ | (refine Below.trans ?_ (b1.mono (by first | omega | (simp; done) | (simp; omega)))) | (refine Below.setCell ?_ (by first | omega | (simp; done) | (simp; omega)) _) | apply below_drewN | apply Below.drew | (refine Below.alloc ?_ (by first | omega | (simp; done) | (simp; omega)) _)))).mono (by first | omega | (simp; done) | (simp; omega))) PS.out).mono ?_; rintro e2 W2 ⟨rfl, b2⟩; rw [EC.out]; have s2 : w.heap.size < W2.heap.size := (by have := b2.size; (try simp at this); omega); obtain ⟨k2, f2⟩ := bcell b2; have d2 : Below w.heap.size w W2 := (by repeat (first | assumption | exact Below.refl _ _ | (refine Below.trans ?_ (b2.mono (by first | omega | (simp; done) | (simp; omega)))) | (refine Below.trans ?_ (b1.mono (by first | omega | (simp; done) | (simp; omega)))) | (refine Below.setCell ?_ (by first | omega | (simp; done) | (simp; omega)) _) | apply below_drewN | apply Below.drew | (refine Below.alloc ?_ (by first | omega | (simp; done) | (simp; omega)) _)))))
    go_wp2_with (go_at_call 43; refine (cut_t _ _ _ _ xa0_1 _ _ _ xa1 _ ha0_1 ha1 ((RA.out.below d2).mono (by first | omega | (simp; done) | (simp; omega))) ((RB.out.below d2).mono (by first | omega | (simp; done) | (simp; omega))) HV.out).mono ?_; rintro e3 W3 ⟨rfl, b3⟩)
    go_ret2
    exact ⟨rfl, (by repeat (first | assumption | exact Below.refl _ _ | (refine Below.trans ?_ (b3.mono (by first | omega | (simp; done) | (simp; omega)))) | (refine Below.trans ?_ (d2.mono (by first | omega | (simp; done) | (simp; omega)))) | (refine Below.setCell ?_ (by first | omega | (simp; done) | (simp; omega)) _) | apply below_drewN | apply Below.drew | (refine Below.alloc ?_ (by first | omega | (simp; done) | (simp; omega)) _)))⟩
  · have e0 : r0_CutFlow a0_0 xa0_1 xa1 = 0 := cf_no h
    have e1 : r1_CutFlow a0_0 xa0_1 xa1 = ncode a0_0 xa0_1 (Side a0_0 xa1) := rfl
    rw [e0, e1]
    have e2 := ncode_ne h
    clear e0 e1 h
    generalize hC : ncode a0_0 xa0_1 (Side a0_0 xa1) = C at *
    have E := Lib.hid hC
    clear hC
    go_enter Try.func20, Try.ntmps20
    go_wp2_with fail
    go_region_held3 (fun w' => w'.cell? ⟨w.heap.size, 0, none⟩ = some (.int .i64 a0_0) ∧ w'.cell? ⟨w.heap.size, 1, none⟩ = some (.slice a0_1 la0_1 ca0_1)) (go_keep)
      (first | (go_at_call 42; refine (hasSide_t _ _ _ _ _ _ _ xa1 _ ha1 ((RB.out.below (by repeat (first | assumption | exact Below.refl _ _ | (refine Below.setCell ?_ (by first | omega | (simp; done) | (simp; omega)) _) | apply below_drewN | apply Below.drew | (refine Below.alloc ?_ (by first | omega | (simp; done) | (simp; omega)) _)))).mono (by first | omega | (simp; done) | (simp; omega))) vs VS.out).mono ?_; rintro e1 W1 ⟨rfl, b1⟩; have s1 : w.heap.size < W1.heap.size := (by have := b1.size; simp at this; omega); obtain ⟨k1, f1⟩ := bcell b1) | (go_at_call 30; refine (netCode_t _ _ _ _ xa0_1 _ (Side a0_0 xa1) _ ha0_1 ((RA.out.below (by repeat (first | assumption | exact Below.refl _ _ | (refine Below.trans ?_ (b1.mono (by first | omega | (simp; done) | (simp; omega)))) | (refine Below.setCell ?_ (by first | omega | (simp; done) | (simp; omega)) _) | apply below_drewN | apply Below.drew | (refine Below.alloc ?_ (by first | omega | (simp; done) | (simp; omega)) _)))).mono (by first | omega | (simp; done) | (simp; omega))) PS.out).mono ?_; rintro e3 W2 ⟨rfl, b2⟩; rw [E.out]; have s2 : w.heap.size < W2.heap.size := (by have := b2.size; (try simp at this); omega); obtain ⟨k2, f2⟩ := bcell b2; have d2 : Below w.heap.size w W2 := (by repeat (first | assumption | exact Below.refl _ _ | (refine Below.trans ?_ (b2.mono (by first | omega | (simp; done) | (simp; omega)))) | (refine Below.trans ?_ (b1.mono (by first | omega | (simp; done) | (simp; omega)))) | (refine Below.setCell ?_ (by first | omega | (simp; done) | (simp; omega)) _) | apply below_drewN | apply Below.drew | (refine Below.alloc ?_ (by first | omega | (simp; done) | (simp; omega)) _)))))
    go_wp2
    go_ret2
    exact ⟨rfl, d2⟩

end Go.Proofs.Ytlibmlbefboolaa
