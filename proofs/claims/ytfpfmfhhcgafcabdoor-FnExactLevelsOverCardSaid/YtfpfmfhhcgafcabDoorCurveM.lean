/- Contracts of the model over a curve that lies in memory: valid, knot, volume, code, level. -/
import Derived.Test.YtfpfmfhhcgafcabDoorCurveP
namespace Go.Proofs.YtfpfmfhhcgafcabDoor
open Go.RowKit

def CurveAt (w : World) (b : Nat) (A0 : Option Addr) (n0 k0 : Nat) (A1 : Option Addr) (n1 k1 : Nat) : Prop :=
  w.cell? ⟨b, 0, none⟩ = some (.slice A0 n0 k0) ∧ w.cell? ⟨b, 1, none⟩ = some (.slice A1 n1 k1)
theorem CurveAt.below {w w' : World} {B b : Nat} {A0 : Option Addr} {n0 k0 : Nat} {A1 : Option Addr} {n1 k1 : Nat} (h : CurveAt w b A0 n0 k0 A1 n1 k1) (hb : Below B w w') (hB : b < B) : CurveAt w' b A0 n0 k0 A1 n1 k1 :=
  ⟨(hb.cell (p := ⟨b, 0, none⟩) hB).trans h.1, (hb.cell (p := ⟨b, 1, none⟩) hB).trans h.2⟩

theorem curve_f {ls vs : List Int} {ok : Bool} (hok : ok = true ↔ CurveOk ls vs) (h : ¬ CurveOk ls vs) : ok = false := by
  cases hb : ok
  · rfl
  · exact absurd (hok.1 hb) h

set_option maxHeartbeats 1600000 in
theorem l05Ok_any (b : Nat) (A0 : Option Addr) (n0 k0 : Nat) (ls : List Int) (A1 : Option Addr) (n1 k1 : Nat) (vs : List Int) (w : World) (hb0 : b < w.heap.size) (hn0 : n0 ≤ 1048576) (hn1 : n1 ≤ 1048576) (hat : CurveAt w b A0 n0 k0 A1 n1 k1) (ha : Rd w w.heap.size A0 n0 ls) (hv : Rd w w.heap.size A1 n1 vs) (ok : Bool) (hok : ok = true ↔ CurveOk ls vs) :
    Calls Tryd.prog 33 #[.pointer (some ⟨b, 0, none⟩)] w fun e w' => e = .returned (.bool ok) ∧ Below w.heap.size w w' := by
  have hl0 := ha.1
  have hl1 := hv.1
  have HA := Lib.hid ha
  have HV := Lib.hid hv
  have HK := Lib.hid hok
  obtain ⟨c0, c1⟩ := hat
  clear ha hv hok
  by_cases h1 : 2 ≤ n0 ∧ n0 ≤ 12
  · obtain ⟨h1a, h1b⟩ := h1
    by_cases h2 : n1 = n0
    · subst h2
      have e2 : ((n1 : Int) != (n1 : Int)) = false := by simp
      by_cases h3 : Ris (-2000) 2000 ls
      · have H3 := Lib.hid (show true = decide (∀ j, j < ls.length → stepOk (-2000) 2000 ls j) from (decide_eq_true h3).symm)
        by_cases h4 : Ris 0 1000000000 vs
        · have H4 := Lib.hid (show true = decide (∀ j, j < vs.length → stepOk 0 1000000000 vs j) from (decide_eq_true h4).symm)
          have hlast : ok = decide (vs.getD 0 0 = 0) := by
            by_cases h5 : vs.getD 0 0 = 0
            · rw [HK.out.2 ⟨by omega, by omega, h3, h4, h5⟩]; exact (decide_eq_true h5).symm
            · rw [curve_f HK.out (fun h => h5 h.2.2.2.2)]; exact (decide_eq_false h5).symm
          have HO := Lib.hid hlast
          clear h3 h4 hlast
          go_enter Tryd.func33, Tryd.ntmps33
          go_wp2_with (first | (go_at_call 50; first | (refine (in_t _ _ _ _ (by omega)).mono ?_; rintro e w' ⟨rfl, rfl⟩) | (refine (in_f _ _ _ _ (by omega)).mono ?_; rintro e w' ⟨rfl, rfl⟩)))
          go_wp2_with fail
          refine (l00Rises_t _ _ _ ls _ _ _ hn0 ((HA.out.below (by repeat (first | assumption | exact Below.refl _ _ | (refine Below.setCell ?_ (by first | omega | (simp; done) | (simp; omega)) _) | apply below_drewN | apply Below.drew | (refine Below.alloc ?_ (by first | omega | (simp; done) | (simp; omega)) _)))).mono (by first | omega | (simp; done) | (simp; omega))) true H3.out).mono ?_
          rintro e1 W1 ⟨rfl, b1⟩
          have s1 := b1.size
          have z0 := (b1.cell (p := ⟨b, 0, none⟩) (show b < _ from (by first | omega | (simp; done) | (simp; omega)))).trans c0
          have z1 := (b1.cell (p := ⟨b, 1, none⟩) (show b < _ from (by first | omega | (simp; done) | (simp; omega)))).trans c1
          go_wp2_with fail
          refine (l00Rises_t _ _ _ vs _ _ _ hn1 ((HV.out.below (by repeat (first | assumption | exact Below.refl _ _ | (refine Below.trans ?_ (b1.mono (by first | omega | (simp; done) | (simp; omega)))) | (refine Below.setCell ?_ (by first | omega | (simp; done) | (simp; omega)) _) | apply below_drewN | apply Below.drew | (refine Below.alloc ?_ (by first | omega | (simp; done) | (simp; omega)) _)))).mono (by first | omega | (simp; done) | (simp; omega))) true H4.out).mono ?_
          rintro e2 W2 ⟨rfl, b2⟩
          have s2 := b2.size
          have y0 := (b2.cell (p := ⟨b, 0, none⟩) (show b < _ from (by first | omega | (simp; done) | (simp; omega)))).trans z0
          have y1 := (b2.cell (p := ⟨b, 1, none⟩) (show b < _ from (by first | omega | (simp; done) | (simp; omega)))).trans z1
          obtain ⟨b', o', rfl, hB, hc⟩ := (HV.out.below (show Below w.heap.size w W2 from (by repeat (first | assumption | exact Below.refl _ _ | (refine Below.trans ?_ (b2.mono (by first | omega | (simp; done) | (simp; omega)))) | (refine Below.trans ?_ (b1.mono (by first | omega | (simp; done) | (simp; omega)))) | (refine Below.setCell ?_ (by first | omega | (simp; done) | (simp; omega)) _) | apply below_drewN | apply Below.drew | (refine Below.alloc ?_ (by first | omega | (simp; done) | (simp; omega)) _))))).2 (by omega)
          have p0 := hc 0 (by omega)
          simp only [Nat.add_zero] at p0
          clear hc
          go_wp2
          go_ret
          exact ⟨ret_bool HO.out.symm, (by repeat (first | assumption | exact Below.refl _ _ | (refine Below.trans ?_ (b2.mono (by first | omega | (simp; done) | (simp; omega)))) | (refine Below.trans ?_ (b1.mono (by first | omega | (simp; done) | (simp; omega)))) | (refine Below.setCell ?_ (by first | omega | (simp; done) | (simp; omega)) _) | apply below_drewN | apply Below.drew | (refine Below.alloc ?_ (by first | omega | (simp; done) | (simp; omega)) _)))⟩
        · have H4 := Lib.hid (show false = decide (∀ j, j < vs.length → stepOk 0 1000000000 vs j) from (decide_eq_false h4).symm)
          have HO := Lib.hid (curve_f HK.out (fun h => h4 h.2.2.2.1))
          clear h3 h4
          go_enter Tryd.func33, Tryd.ntmps33
          go_wp2_with (first | (go_at_call 50; first | (refine (in_t _ _ _ _ (by omega)).mono ?_; rintro e w' ⟨rfl, rfl⟩) | (refine (in_f _ _ _ _ (by omega)).mono ?_; rintro e w' ⟨rfl, rfl⟩)))
          go_wp2_with fail
          refine (l00Rises_t _ _ _ ls _ _ _ hn0 ((HA.out.below (by repeat (first | assumption | exact Below.refl _ _ | (refine Below.setCell ?_ (by first | omega | (simp; done) | (simp; omega)) _) | apply below_drewN | apply Below.drew | (refine Below.alloc ?_ (by first | omega | (simp; done) | (simp; omega)) _)))).mono (by first | omega | (simp; done) | (simp; omega))) true H3.out).mono ?_
          rintro e1 W1 ⟨rfl, b1⟩
          have s1 := b1.size
          have z0 := (b1.cell (p := ⟨b, 0, none⟩) (show b < _ from (by first | omega | (simp; done) | (simp; omega)))).trans c0
          have z1 := (b1.cell (p := ⟨b, 1, none⟩) (show b < _ from (by first | omega | (simp; done) | (simp; omega)))).trans c1
          go_wp2_with fail
          refine (l00Rises_t _ _ _ vs _ _ _ hn1 ((HV.out.below (by repeat (first | assumption | exact Below.refl _ _ | (refine Below.trans ?_ (b1.mono (by first | omega | (simp; done) | (simp; omega)))) | (refine Below.setCell ?_ (by first | omega | (simp; done) | (simp; omega)) _) | apply below_drewN | apply Below.drew | (refine Below.alloc ?_ (by first | omega | (simp; done) | (simp; omega)) _)))).mono (by first | omega | (simp; done) | (simp; omega))) false H4.out).mono ?_
          rintro e2 W2 ⟨rfl, b2⟩
          go_wp2
          go_ret
          exact ⟨ret_bool HO.out.symm, (by repeat (first | assumption | exact Below.refl _ _ | (refine Below.trans ?_ (b2.mono (by first | omega | (simp; done) | (simp; omega)))) | (refine Below.trans ?_ (b1.mono (by first | omega | (simp; done) | (simp; omega)))) | (refine Below.setCell ?_ (by first | omega | (simp; done) | (simp; omega)) _) | apply below_drewN | apply Below.drew | (refine Below.alloc ?_ (by first | omega | (simp; done) | (simp; omega)) _)))⟩
      · have H3 := Lib.hid (show false = decide (∀ j, j < ls.length → stepOk (-2000) 2000 ls j) from (decide_eq_false h3).symm)
        have HO := Lib.hid (curve_f HK.out (fun h => h3 h.2.2.1))
        clear h3
        go_enter Tryd.func33, Tryd.ntmps33
        go_wp2_with (first | (go_at_call 50; first | (refine (in_t _ _ _ _ (by omega)).mono ?_; rintro e w' ⟨rfl, rfl⟩) | (refine (in_f _ _ _ _ (by omega)).mono ?_; rintro e w' ⟨rfl, rfl⟩)))
        go_wp2_with fail
        refine (l00Rises_t _ _ _ ls _ _ _ hn0 ((HA.out.below (by repeat (first | assumption | exact Below.refl _ _ | (refine Below.setCell ?_ (by first | omega | (simp; done) | (simp; omega)) _) | apply below_drewN | apply Below.drew | (refine Below.alloc ?_ (by first | omega | (simp; done) | (simp; omega)) _)))).mono (by first | omega | (simp; done) | (simp; omega))) false H3.out).mono ?_
        rintro e1 W1 ⟨rfl, b1⟩
        go_wp2
        go_ret
        exact ⟨ret_bool HO.out.symm, (by repeat (first | assumption | exact Below.refl _ _ | (refine Below.trans ?_ (b1.mono (by first | omega | (simp; done) | (simp; omega)))) | (refine Below.setCell ?_ (by first | omega | (simp; done) | (simp; omega)) _) | apply below_drewN | apply Below.drew | (refine Below.alloc ?_ (by first | omega | (simp; done) | (simp; omega)) _)))⟩
    · have HO := Lib.hid (curve_f HK.out (fun h => h2 (by have := h.2.1; omega)))
      have e2 : ((n1 : Int) != (n0 : Int)) = true := by simp; omega
      go_enter Tryd.func33, Tryd.ntmps33
      go_wp2_with (first | (go_at_call 50; first | (refine (in_t _ _ _ _ (by omega)).mono ?_; rintro e w' ⟨rfl, rfl⟩) | (refine (in_f _ _ _ _ (by omega)).mono ?_; rintro e w' ⟨rfl, rfl⟩)))
      go_ret
      exact ⟨ret_bool HO.out.symm, (by repeat (first | assumption | exact Below.refl _ _ | (refine Below.setCell ?_ (by first | omega | (simp; done) | (simp; omega)) _) | apply below_drewN | apply Below.drew | (refine Below.alloc ?_ (by first | omega | (simp; done) | (simp; omega)) _)))⟩
  · have h1' : (n0 : Int) < 2 ∨ 12 < (n0 : Int) := by omega
    have HO := Lib.hid (curve_f HK.out (fun h => h1 (by have := h.1; omega)))
    clear h1
    go_enter Tryd.func33, Tryd.ntmps33
    go_wp2_with (first | (go_at_call 50; first | (refine (in_t _ _ _ _ (by omega)).mono ?_; rintro e w' ⟨rfl, rfl⟩) | (refine (in_f _ _ _ _ (by omega)).mono ?_; rintro e w' ⟨rfl, rfl⟩)))
    go_ret
    exact ⟨ret_bool HO.out.symm, (by repeat (first | assumption | exact Below.refl _ _ | (refine Below.setCell ?_ (by first | omega | (simp; done) | (simp; omega)) _) | apply below_drewN | apply Below.drew | (refine Below.alloc ?_ (by first | omega | (simp; done) | (simp; omega)) _)))⟩

set_option maxHeartbeats 1600000 in
theorem l05Knot_t (b : Nat) (A0 : Option Addr) (n0 k0 : Nat) (ls : List Int) (A1 : Option Addr) (n1 k1 : Nat) (vs : List Int) (y : Int) (w : World) (hb0 : b < w.heap.size) (hat : CurveAt w b A0 n0 k0 A1 n1 k1) (ha : Rd w w.heap.size A0 n0 ls) (h : CurveOk ls vs) :
    Calls Tryd.prog 36 #[.pointer (some ⟨b, 0, none⟩), .int .i64 y] w fun e w' => e = .returned (.int .i64 ((kn ls y : Nat) : Int)) ∧ Below w.heap.size w w' := by
  have hl0 := ha.1
  have HA := Lib.hid ha
  have HL := Lib.hid h.2.2.1
  obtain ⟨c0, c1⟩ := hat
  obtain ⟨⟨h1, h2⟩, _⟩ := h
  clear ha
  go_enter Tryd.func36, Tryd.ntmps36
  go_wp2
  go_loopw [5] (fun k wr => ∃ p : Nat, p + 2 ≤ n0 ∧ k = .int .i64 (p : Int) ∧ Below w.heap.size w wr ∧ Hid (∀ j, j < p → ls.getD (j + 1) 0 ≤ y)) (fun k _ => n0 - (intOf k).toNat)
  case atStart => exact ⟨0, by omega, rfl, Below.refl _ _, fun j hj => absurd hj (by omega)⟩
  case round =>
    obtain ⟨p, hp, rfl, hb, hr⟩ := hrel
    have hsz := hb.size
    have z0 := (hb.cell (p := ⟨b, 0, none⟩) hb0).trans c0
    by_cases hlt : p + 2 < n0
    · obtain ⟨ab, o, rfl, hB, hc⟩ := (HA.out.below hb).2 (by omega)
      have q0 := hc (p + 1) (by omega)
      clear hc
      obtain ⟨z, hz⟩ : ∃ z, z = ls.getD (p + 1) 0 := ⟨_, rfl⟩
      rw [← hz] at q0
      have HZ := Lib.hid hz
      clear hz
      by_cases hq : z ≤ y
      · go_wp2
        go_roundw
        case rel => exact ⟨p + 1, by omega, by go_num, (by repeat (first | assumption | exact Below.refl _ _ | (refine Below.setCell ?_ (by first | omega | (simp; done) | (simp; omega)) _) | apply below_drewN | apply Below.drew | (refine Below.alloc ?_ (by first | omega | (simp; done) | (simp; omega)) _))), fun j hj => by
          by_cases e : j = p
          · subst e; rw [← HZ.out]; exact hq
          · exact hr.out j (by omega)⟩
        case measure => simp [intOf]; omega
      · have HE := Lib.hid (show kn ls y = p from kn_eq HL.out (by omega) hr.out (fun _ => by rw [← HZ.out]; omega))
        go_wp2
        go_ret
        exact ⟨ret_int (by rw [HE.out]), (by repeat (first | assumption | exact Below.refl _ _ | (refine Below.setCell ?_ (by first | omega | (simp; done) | (simp; omega)) _) | apply below_drewN | apply Below.drew | (refine Below.alloc ?_ (by first | omega | (simp; done) | (simp; omega)) _)))⟩
    · have HE := Lib.hid (show kn ls y = p from kn_eq HL.out (by omega) hr.out (fun h => absurd h (by omega)))
      have hd : decide ((p : Int) + 2 < (n0 : Int)) = false := by simp; omega
      go_wp2
      go_ret
      exact ⟨ret_int (by rw [HE.out]), (by repeat (first | assumption | exact Below.refl _ _ | (refine Below.setCell ?_ (by first | omega | (simp; done) | (simp; omega)) _) | apply below_drewN | apply Below.drew | (refine Below.alloc ?_ (by first | omega | (simp; done) | (simp; omega)) _)))⟩

set_option maxHeartbeats 1600000 in
theorem l05In_t (b : Nat) (A0 : Option Addr) (n0 k0 : Nat) (ls : List Int) (A1 : Option Addr) (n1 k1 : Nat) (vs : List Int) (y : Int) (w : World) (hb0 : b < w.heap.size) (hat : CurveAt w b A0 n0 k0 A1 n1 k1) (ha : Rd w w.heap.size A0 n0 ls) (h : CurveOk ls vs) (v : Bool) (hv : v = decide (onC ls y)) :
    Calls Tryd.prog 34 #[.pointer (some ⟨b, 0, none⟩), .int .i64 y] w fun e w' => e = .returned (.bool v) ∧ Below w.heap.size w w' := by
  have hl0 := ha.1
  obtain ⟨c0, c1⟩ := hat
  obtain ⟨⟨h1, h2⟩, _⟩ := h
  obtain ⟨ab, o, rfl, hB, hc⟩ := ha.2 (by omega)
  have p0 := hc 0 (by omega)
  simp only [Nat.add_zero] at p0
  have p1 := hc (n0 - 1) (by omega)
  have i0 : 0 < n0 := by omega
  have i1 : n0 - 1 < n0 := by omega
  have i2 : (n0 : Int) - 1 < (n0 : Int) := by omega
  have i3 : (0 : Int) < (n0 : Int) := by omega
  clear hc ha
  obtain ⟨x, hx⟩ : ∃ x, x = ls.getD 0 0 := ⟨_, rfl⟩
  obtain ⟨z, hz⟩ : ∃ z, z = ls.getD (n0 - 1) 0 := ⟨_, rfl⟩
  have hv2 : v = decide (x ≤ y ∧ y ≤ z) := by
    rw [hv]; exact decide_eq_decide.2 (by unfold onC; rw [hl0, hx, hz])
  rw [← hx] at p0
  rw [← hz] at p1
  have HV := Lib.hid hv2
  clear hx hz hv hv2
  go_enter Tryd.func34, Tryd.ntmps34
  go_wp2
  go_quiet ((go_at_call 50; exact Calls.quiet_of_same ((in_any _ _ _ _).mono fun _ _ h => ⟨h.1, h.2.symm⟩)))
  go_wp2
  go_ret
  exact ⟨ret_bool HV.out.symm, (by repeat (first | assumption | exact Below.refl _ _ | (refine Below.setCell ?_ (by first | omega | (simp; done) | (simp; omega)) _) | apply below_drewN | apply Below.drew | (refine Below.alloc ?_ (by first | omega | (simp; done) | (simp; omega)) _)))⟩

set_option maxHeartbeats 1600000 in
theorem l05Volume_t (b : Nat) (A0 : Option Addr) (n0 k0 : Nat) (ls : List Int) (A1 : Option Addr) (n1 k1 : Nat) (vs : List Int) (y : Int) (w : World) (hb0 : b < w.heap.size) (hat : CurveAt w b A0 n0 k0 A1 n1 k1) (ha : Rd w w.heap.size A0 n0 ls) (hv : Rd w w.heap.size A1 n1 vs) (h : CurveOk ls vs) (hy : onC ls y) :
    Calls Tryd.prog 20 #[.pointer (some ⟨b, 0, none⟩), .int .i64 y] w fun e w' => e = .returned (.int .i64 (vAt ls vs y)) ∧ Below w.heap.size w w' := by
  have hl0 := ha.1
  have hl1 := hv.1
  have HA := Lib.hid ha
  have HV := Lib.hid hv
  have HAT := Lib.hid hat
  have HC := Lib.hid h
  have hlen := h.1
  have HE := Lib.hid (show vAt ls vs y = _ from rfl)
  have part := h.part hy
  have hlt := part.lt
  have hltv := part.ltv
  have m1 := part.mul
  have m2 := part.div
  have g1 := part.l0
  have g2 := part.ly
  have g3 := part.yl
  have g4 := part.l1
  have g5 := part.ll
  have g6 := part.v0
  have g7 := part.vv
  have g8 := part.v1
  unfold vAt
  clear part hat h
  generalize hk : kn ls y = k at *
  have HK := Lib.hid hk
  clear hk
  obtain ⟨ab, o, rfl, hB, hc⟩ := ha.2 (by omega)
  obtain ⟨ab', o', rfl, hB', hc'⟩ := hv.2 (by omega)
  have p0 := hc k (by omega)
  have p1 := hc (k + 1) (by omega)
  have r0 := hc' k (by omega)
  have r1 := hc' (k + 1) (by omega)
  clear hc hc' ha hv
  generalize ls.getD k 0 = x0 at *
  generalize ls.getD (k + 1) 0 = x1 at *
  generalize vs.getD k 0 = v0 at *
  generalize vs.getD (k + 1) 0 = v1 at *
  obtain ⟨m1a, m1b⟩ := m1
  obtain ⟨m2a, m2b⟩ := m2
  have i0 : k < n0 := by omega
  have i1 : k + 1 < n0 := by omega
  have i2 : k < n1 := by omega
  have i3 : k + 1 < n1 := by omega
  have i4 : (k : Int) + 1 < (n0 : Int) := by omega
  have i5 : (k : Int) + 1 < (n1 : Int) := by omega
  go_enter Tryd.func20, Tryd.ntmps20
  go_wp2_with fail
  refine (l05Knot_t b _ n0 k0 ls _ n1 k1 vs _ _ hb0 HAT.out HA.out HC.out).mono ?_
  rintro e1 W1 ⟨rfl, b1⟩
  rw [HK.out]
  obtain ⟨z0, z1⟩ := HAT.out.below b1 hb0
  have q0 := (b1.cell (p := ⟨ab, o + k, none⟩) hB).trans p0
  have q1 := (b1.cell (p := ⟨ab, o + (k + 1), none⟩) hB).trans p1
  have t0 := (b1.cell (p := ⟨ab', o' + k, none⟩) hB').trans r0
  have t1 := (b1.cell (p := ⟨ab', o' + (k + 1), none⟩) hB').trans r1
  go_wp2
  go_quiet (fail)
  go_wp2
  go_quiet (fail)
  go_wp2
  go_ret
  exact ⟨rfl, (by repeat (first | assumption | exact Below.refl _ _ | (refine Below.trans ?_ (b1.mono (by first | omega | (simp; done) | (simp; omega)))) | (refine Below.setCell ?_ (by first | omega | (simp; done) | (simp; omega)) _) | apply below_drewN | apply Below.drew | (refine Below.alloc ?_ (by first | omega | (simp; done) | (simp; omega)) _)))⟩
set_option maxHeartbeats 800000 in
theorem l05Code_t (b : Nat) (A0 : Option Addr) (n0 k0 : Nat) (ls : List Int) (A1 : Option Addr) (n1 k1 : Nat) (vs : List Int) (y : Int) (w : World) (hb0 : b < w.heap.size) (hn0 : n0 ≤ 1048576) (hn1 : n1 ≤ 1048576) (hat : CurveAt w b A0 n0 k0 A1 n1 k1) (ha : Rd w w.heap.size A0 n0 ls) (hv : Rd w w.heap.size A1 n1 vs) :
    Calls Tryd.prog 18 #[.pointer (some ⟨b, 0, none⟩), .int .i64 y] w fun e w' => e = .returned (.int .i64 (ccode ls vs (onC ls y))) ∧ Below w.heap.size w w' := by
  have HA := Lib.hid ha
  have HV := Lib.hid hv
  have HAT := Lib.hid hat
  clear ha hv hat
  by_cases hc : CurveOk ls vs
  · have HC := Lib.hid hc
    by_cases hp : onC ls y
    · rw [ccode_ok hc hp]
      have HP := Lib.hid (show true = decide (onC ls y) from (decide_eq_true hp).symm)
      clear hc hp
      go_enter Tryd.func18, Tryd.ntmps18
      go_wp2_with (go_at_call 33; refine (l05Ok_any b A0 n0 k0 ls A1 n1 k1 vs _ hb0 hn0 hn1 HAT.out HA.out HV.out true (by simp [HC.out])).mono ?_; rintro e1 W1 ⟨rfl, b1⟩)
      have s1 := b1.size
      go_wp2_with (go_at_call 34; refine (l05In_t b A0 n0 k0 ls A1 n1 k1 vs y _ (by omega) (HAT.out.below b1 hb0) ((HA.out.below b1).mono s1) HC.out true HP.out).mono ?_; rintro e2 W2 ⟨rfl, b2⟩)
      go_ret
      exact ⟨rfl, (by repeat (first | assumption | exact Below.refl _ _ | (refine Below.trans ?_ (b2.mono (by first | omega | (simp; done) | (simp; omega)))) | (refine Below.trans ?_ (b1.mono (by first | omega | (simp; done) | (simp; omega)))) | (refine Below.setCell ?_ (by first | omega | (simp; done) | (simp; omega)) _) | apply below_drewN | apply Below.drew | (refine Below.alloc ?_ (by first | omega | (simp; done) | (simp; omega)) _)))⟩
    · rw [ccode_no hc hp]
      have HP := Lib.hid (show false = decide (onC ls y) from (decide_eq_false hp).symm)
      clear hc hp
      go_enter Tryd.func18, Tryd.ntmps18
      go_wp2_with (go_at_call 33; refine (l05Ok_any b A0 n0 k0 ls A1 n1 k1 vs _ hb0 hn0 hn1 HAT.out HA.out HV.out true (by simp [HC.out])).mono ?_; rintro e1 W1 ⟨rfl, b1⟩)
      have s1 := b1.size
      go_wp2_with (go_at_call 34; refine (l05In_t b A0 n0 k0 ls A1 n1 k1 vs y _ (by omega) (HAT.out.below b1 hb0) ((HA.out.below b1).mono s1) HC.out false HP.out).mono ?_; rintro e2 W2 ⟨rfl, b2⟩)
      go_ret
      exact ⟨rfl, (by repeat (first | assumption | exact Below.refl _ _ | (refine Below.trans ?_ (b2.mono (by first | omega | (simp; done) | (simp; omega)))) | (refine Below.trans ?_ (b1.mono (by first | omega | (simp; done) | (simp; omega)))) | (refine Below.setCell ?_ (by first | omega | (simp; done) | (simp; omega)) _) | apply below_drewN | apply Below.drew | (refine Below.alloc ?_ (by first | omega | (simp; done) | (simp; omega)) _)))⟩
  · rw [ccode_bad hc]
    have HC := Lib.hid hc
    clear hc
    go_enter Tryd.func18, Tryd.ntmps18
    go_wp2_with (go_at_call 33; refine (l05Ok_any b A0 n0 k0 ls A1 n1 k1 vs _ hb0 hn0 hn1 HAT.out HA.out HV.out false (by simp [HC.out])).mono ?_; rintro e1 W1 ⟨rfl, b1⟩)
    go_ret
    exact ⟨rfl, (by repeat (first | assumption | exact Below.refl _ _ | (refine Below.trans ?_ (b1.mono (by first | omega | (simp; done) | (simp; omega)))) | (refine Below.setCell ?_ (by first | omega | (simp; done) | (simp; omega)) _) | apply below_drewN | apply Below.drew | (refine Below.alloc ?_ (by first | omega | (simp; done) | (simp; omega)) _)))⟩

set_option maxHeartbeats 800000 in
theorem floor2_t (a m : Int) (w : World) (h1 : -10000 ≤ a) (h2 : a ≤ 10000) (hm : a / 2 = m) :
    Calls Tryd.prog 37 #[.int .i64 a, .int .i64 2] w fun e w' => e = .returned (.int .i64 m) ∧ w = w' := by
  have HM := Lib.hid hm
  clear hm
  by_cases h : 0 ≤ a
  · have h3 : 0 ≤ a % 2 := by omega
    go_enter Tryd.func37, Tryd.ntmps37
    go_wp2
    go_ret
    exact ⟨ret_int HM.out, rfl⟩
  · have q1 : a.tdiv 2 = -((-a) / 2) := by rw [show a = -(-a) by omega, Int.neg_tdiv, Int.tdiv_eq_ediv_of_nonneg (by omega)]; simp
    have q2 : a.tmod 2 = -((-a) % 2) := by rw [show a = -(-a) by omega, Int.neg_tmod, Int.tmod_eq_emod_of_nonneg (by omega)]; simp
    have Q1 := Lib.hid q1
    have b1 : -5000 ≤ a.tdiv 2 := by omega
    have b2 : a.tdiv 2 ≤ 5000 := by omega
    by_cases ho : (-a) % 2 = 1
    · have b3 : a.tmod 2 < 0 := by omega
      have HE := Lib.hid (show a.tdiv 2 - 1 = m by have := HM.out; omega)
      clear q1 q2 ho
      go_enter Tryd.func37, Tryd.ntmps37
      go_wp2
      go_ret
      exact ⟨ret_int HE.out, rfl⟩
    · have b3 : ¬ a.tmod 2 < 0 := by omega
      have HE := Lib.hid (show a.tdiv 2 = m by have := HM.out; omega)
      clear q1 q2 ho
      go_enter Tryd.func37, Tryd.ntmps37
      go_wp2
      go_ret
      exact ⟨ret_int HE.out, rfl⟩

set_option maxRecDepth 100000 in
set_option maxHeartbeats 3200000 in
theorem l05Level_t (b : Nat) (A0 : Option Addr) (n0 k0 : Nat) (ls : List Int) (A1 : Option Addr) (n1 k1 : Nat) (vs : List Int) (v : Int) (w : World) (hb0 : b < w.heap.size) (hn0 : n0 ≤ 1048576) (hn1 : n1 ≤ 1048576) (hat : CurveAt w b A0 n0 k0 A1 n1 k1) (ha : Rd w w.heap.size A0 n0 ls) (hv : Rd w w.heap.size A1 n1 vs) (h : CurveOk ls vs) (hv9 : v ≤ vs.getD (vs.length - 1) 0) :
    Calls Tryd.prog 22 #[.pointer (some ⟨b, 0, none⟩), .int .i64 v] w fun e w' => e = .returned (.int .i64 (lvAt ls vs v)) ∧ Below w.heap.size w w' := by
  have hl0 := ha.1
  have HA := Lib.hid ha
  have HV := Lib.hid hv
  have HAT := Lib.hid hat
  have HC := Lib.hid h
  have HEL := Lib.hid (enough_last h hv9)
  have hsp := span_eq h
  obtain ⟨c0, c1⟩ := hat
  have hlen := h.1
  obtain ⟨ab, o, rfl, hB, hc⟩ := ha.2 (by omega)
  have p0 := hc 0 (by omega)
  simp only [Nat.add_zero] at p0
  have p1 := hc (n0 - 1) (by omega)
  clear hc ha hv hv9
  have bd0 := (h.2.2.1).bd (show 0 < ls.length by omega)
  have bd1 := (h.2.2.1).bd (show ls.length - 1 < ls.length by omega)
  obtain ⟨x, hx⟩ : ∃ x, x = ls.getD 0 0 := ⟨_, rfl⟩
  obtain ⟨z, hz⟩ : ∃ z, z = ls.getD (n0 - 1) 0 := ⟨_, rfl⟩
  rw [hl0] at hsp bd1
  rw [← hx] at p0 bd0
  rw [← hz] at p1 bd1
  rw [← hx, ← hz] at hsp
  have HX := Lib.hid hx
  have HZ := Lib.hid hz
  obtain ⟨sp, hS⟩ : ∃ sp, sp = span ls := ⟨_, rfl⟩
  rw [← hS] at hsp
  have HS := Lib.hid hS
  clear hx hz h hS
  obtain rfl : z = x + (sp : Int) := by omega
  have i0 : 0 < n0 := by omega
  have i1 : n0 - 1 < n0 := by omega
  have i2 : (n0 : Int) - 1 < (n0 : Int) := by omega
  have i3 : (0 : Int) < (n0 : Int) := by omega
  clear hsp hlen
  go_enter Tryd.func22, Tryd.ntmps22
  go_wp2
  go_quiet (fail)
  go_wp2
  go_loopw [5, 6, 7] (fun lo hi _ wr => ∃ p q : Nat, p ≤ q ∧ q ≤ sp ∧ lo = .int .i64 (x - 1 + (p : Int)) ∧ hi = .int .i64 (x + (q : Int)) ∧ Below w.heap.size w wr ∧ Hid ((∀ k, k < p → ¬ enough ls vs v k) ∧ enough ls vs v q)) (fun lo hi _ _ => (intOf hi - intOf lo).toNat)
  case atStart => exact ⟨0, sp, by omega, by omega, by simp, by simp, (by repeat (first | assumption | exact Below.refl _ _ | (refine Below.setCell ?_ (by first | omega | (simp; done) | (simp; omega)) _) | apply below_drewN | apply Below.drew | (refine Below.alloc ?_ (by first | omega | (simp; done) | (simp; omega)) _))), fun k hk => by omega, by rw [HS.out]; exact HEL.out⟩
  case round =>
    obtain ⟨p, q, hpq, hq, rfl, rfl, hb, hr⟩ := hrel
    have hsz := hb.size
    have HAT2 := Lib.hid (HAT.out.below hb hb0)
    by_cases hlt : p < q
    · obtain ⟨m, hm⟩ : ∃ m : Nat, (m : Int) = (x - 1 + (p : Int) + (x + (q : Int))) / 2 - x := ⟨((x - 1 + (p : Int) + (x + (q : Int))) / 2 - x).toNat, by omega⟩
      have hm1 : p ≤ m := by omega
      have hm2 : m < q := by omega
      have HE := Lib.hid (show (x - 1 + (p : Int) + (x + (q : Int))) / 2 = x + (m : Int) by omega)
      have HY := Lib.hid (show onC ls (x + (m : Int)) by rw [HX.out]; exact onC_at HC.out (by rw [← HS.out]; omega))
      clear hm
      have vbd := vAt_bd HC.out HY.out
      obtain ⟨u, hu⟩ : ∃ u, u = vAt ls vs (x + (m : Int)) := ⟨_, rfl⟩
      rw [← hu] at vbd
      have HU := Lib.hid hu
      have hpe : enough ls vs v m ↔ v ≤ u := by rw [hu, HX.out]; exact Iff.rfl
      have HPE := Lib.hid hpe
      clear hu hpe
      by_cases hp : v ≤ u
      · go_wp2_with (first | (go_at_call 37; refine (floor2_t _ _ _ (by omega) (by omega) HE.out).mono ?_; rintro e1 W1 ⟨rfl, rfl⟩) | (go_at_call 20; refine (l05Volume_t b _ n0 k0 ls A1 n1 k1 vs _ _ (by omega) HAT2.out ((HA.out.below hb).mono hsz) ((HV.out.below hb).mono hsz) HC.out HY.out).mono ?_; rintro e2 W2 ⟨rfl, b2⟩; rw [← HU.out]))
        go_roundw
        case rel => exact ⟨p, m, by omega, by omega, rfl, rfl, (by repeat (first | assumption | exact Below.refl _ _ | (refine Below.trans ?_ (b2.mono (by first | omega | (simp; done) | (simp; omega)))) | (refine Below.trans ?_ (hb.mono (by first | omega | (simp; done) | (simp; omega)))) | (refine Below.setCell ?_ (by first | omega | (simp; done) | (simp; omega)) _) | apply below_drewN | apply Below.drew | (refine Below.alloc ?_ (by first | omega | (simp; done) | (simp; omega)) _))), hr.out.1, HPE.out.2 hp⟩
        case measure => simp [intOf]; omega
      · go_wp2_with (first | (go_at_call 37; refine (floor2_t _ _ _ (by omega) (by omega) HE.out).mono ?_; rintro e1 W1 ⟨rfl, rfl⟩) | (go_at_call 20; refine (l05Volume_t b _ n0 k0 ls A1 n1 k1 vs _ _ (by omega) HAT2.out ((HA.out.below hb).mono hsz) ((HV.out.below hb).mono hsz) HC.out HY.out).mono ?_; rintro e2 W2 ⟨rfl, b2⟩; rw [← HU.out]))
        go_roundw
        case rel => exact ⟨m + 1, q, by omega, by omega, by rw [show x - 1 + ((m + 1 : Nat) : Int) = x + (m : Int) by omega], rfl, (by repeat (first | assumption | exact Below.refl _ _ | (refine Below.trans ?_ (b2.mono (by first | omega | (simp; done) | (simp; omega)))) | (refine Below.trans ?_ (hb.mono (by first | omega | (simp; done) | (simp; omega)))) | (refine Below.setCell ?_ (by first | omega | (simp; done) | (simp; omega)) _) | apply below_drewN | apply Below.drew | (refine Below.alloc ?_ (by first | omega | (simp; done) | (simp; omega)) _))), fun k hk hrk => (by have := HPE.out.1 (enough_mono HC.out v k m (by omega) (by rw [← HS.out]; omega) hrk); omega), hr.out.2⟩
        case measure => simp [intOf]; omega
    · obtain rfl : p = q := by omega
      have HF := Lib.hid (show lvAt ls vs v = x + (p : Int) from by rw [HX.out]; exact lvAt_eq HC.out (by rw [← HS.out]; omega) hr.out.1 (fun _ => hr.out.2))
      go_wp2
      go_ret
      exact ⟨ret_int (by rw [HF.out]), hb⟩

end Go.Proofs.YtfpfmfhhcgafcabDoor
