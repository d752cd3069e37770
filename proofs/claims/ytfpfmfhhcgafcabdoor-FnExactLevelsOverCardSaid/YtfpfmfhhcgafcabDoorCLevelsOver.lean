/- The levels after all days: of the model and of the program. -/
import Derived.Test.YtfpfmfhhcgafcabDoorWatI
import Derived.Test.YtfpfmfhhcgafcabDoorWatS
import Derived.Test.YtfpfmfhhcgafcabDoorCurveM
import Derived.Test.YtfpfmfhhcgafcabDoorCurveL
import Derived.Test.YtfpfmfhhcgafcabDoorCurveV
import Derived.Test.YtfpfmfhhcgafcabDoorSCurve
namespace Go.Proofs.YtfpfmfhhcgafcabDoor
open Go.RowKit

def loOk (ls vs : List Int) (y : Int) (n : Nat) (xs : List RWater) : Prop := CurveOk ls vs ∧ onC ls y ∧ waList n xs
instance (ls vs : List Int) (y : Int) (n : Nat) (xs : List RWater) : Decidable (loOk ls vs y n xs) := by unfold loOk; exact inferInstance
def lastV (vs : List Int) : Int := vs.getD (vs.length - 1) 0
def loBad (ls vs : List Int) (y : Int) (xs : List RWater) (n : Nat) : Int := badW (vAt ls vs y) (lastV vs) xs n
def loRow (ls vs : List Int) (y : Int) (xs : List RWater) (n : Nat) : List Int := rowW (fun k => lvAt ls vs (volW (vAt ls vs y) xs (k + 1))) n
def r0_LevelsOver (xa0_0 : List Int) (xa0_1 : List Int) (a1 : Int) (xa2 : List RWater) : List Int := if loOk xa0_0 xa0_1 a1 xa2.length xa2 ∧ loBad xa0_0 xa0_1 a1 xa2 xa2.length = 0 then loRow xa0_0 xa0_1 a1 xa2 xa2.length else []
def r1_LevelsOver (xa0_0 : List Int) (xa0_1 : List Int) (a1 : Int) (xa2 : List RWater) : Int := if CurveOk xa0_0 xa0_1 ∧ waAll xa2.length xa2 then (if onC xa0_0 a1 ∧ xa2.length ≤ 100 then loBad xa0_0 xa0_1 a1 xa2 xa2.length else 2) else 1
theorem len_r0_LevelsOver (xa0_0 : List Int) (xa0_1 : List Int) (a1 : Int) (xa2 : List RWater) : (r0_LevelsOver xa0_0 xa0_1 a1 xa2).length ≤ 1048576 := by
  unfold r0_LevelsOver
  split
  · rename_i h
    have := h.1.2.2.2
    unfold loRow
    rw [rowW_len]
    omega
  · simp
theorem lo_inv {ls vs : List Int} {y : Int} {xs : List RWater} (h : ¬ (CurveOk ls vs ∧ waAll xs.length xs)) : r0_LevelsOver ls vs y xs = [] ∧ r1_LevelsOver ls vs y xs = 1 := ⟨if_neg (fun g => h ⟨g.1.1, g.1.2.2.1⟩), if_neg h⟩
theorem lo_rg {ls vs : List Int} {y : Int} {xs : List RWater} (h : CurveOk ls vs ∧ waAll xs.length xs) (g : ¬ (onC ls y ∧ xs.length ≤ 100)) : r0_LevelsOver ls vs y xs = [] ∧ r1_LevelsOver ls vs y xs = 2 := ⟨if_neg (fun k => g ⟨k.1.2.1, k.1.2.2.2⟩), by unfold r1_LevelsOver; rw [if_pos h, if_neg g]⟩
theorem lo_go {ls vs : List Int} {y : Int} {xs : List RWater} (h : loOk ls vs y xs.length xs) : r1_LevelsOver ls vs y xs = loBad ls vs y xs xs.length := by unfold r1_LevelsOver; rw [if_pos ⟨h.1, h.2.2.1⟩, if_pos ⟨h.2.1, h.2.2.2⟩]
theorem lo_end {ls vs : List Int} {y : Int} {xs : List RWater} (h : loOk ls vs y xs.length xs) (g : loBad ls vs y xs xs.length = 0) : r0_LevelsOver ls vs y xs = loRow ls vs y xs xs.length := if_pos ⟨h, g⟩
theorem lo_bad {ls vs : List Int} {y : Int} {xs : List RWater} (g : loBad ls vs y xs xs.length ≠ 0) : r0_LevelsOver ls vs y xs = [] := if_neg (fun k => g k.2)
theorem net_any7 {x0 x1 x2 x3 x4 : Int} (h : waR ⟨x0, x1, x2, x3, x4⟩) : -10000000000 ≤ x0 ∧ x0 ≤ 10000000000 ∧ -10000000000 ≤ x1 ∧ x1 ≤ 10000000000 ∧ -10000000000 ≤ x2 ∧ x2 ≤ 10000000000 ∧ -10000000000 ≤ x3 ∧ x3 ≤ 10000000000 ∧ -10000000000 ≤ x4 ∧ x4 ≤ 10000000000 := by
  obtain ⟨h0, h1, h2, h3, h4⟩ := h
  simp only at h0 h1 h2 h3 h4
  omega

set_option maxRecDepth 100000 in
set_option maxHeartbeats 3200000 in
theorem specC_LevelsOver (a0_0 : Option Addr) (la0_0 ca0_0 : Nat) (xa0_0 : List Int) (a0_1 : Option Addr) (la0_1 ca0_1 : Nat) (xa0_1 : List Int) (a1 : Int) (a2 : Option Addr) (la2 ca2 : Nat) (xa2 : List RWater) (w : World) (ha0_0 : la0_0 ≤ 1048576) (ra0_0 : Rd w w.heap.size a0_0 la0_0 xa0_0) (fa0_0 : Wf xa0_0) (ha0_1 : la0_1 ≤ 1048576) (ra0_1 : Rd w w.heap.size a0_1 la0_1 xa0_1) (fa0_1 : Wf xa0_1) (ha1 : (Lit.int .i64 a1).wf = true) (ha2 : la2 ≤ 1048576) (ra2 : Rd_Water w w.heap.size a2 la2 xa2) (fa2 : Wf_Water xa2) :
    Calls Tryd.prog 6 #[.agg #[.slice a0_0 la0_0 ca0_0, .slice a0_1 la0_1 ca0_1], .int .i64 a1, .slice a2 la2 ca2] w fun e w' => ∃ B0 dB0, e = .returned (.tuple #[.slice B0 (r0_LevelsOver xa0_0 xa0_1 a1 xa2).length dB0, .int .i64 (r1_LevelsOver xa0_0 xa0_1 a1 xa2)]) ∧ Below w.heap.size w w' ∧ Wr w' w.heap.size B0 (r0_LevelsOver xa0_0 xa0_1 a1 xa2).length (r0_LevelsOver xa0_0 xa0_1 a1 xa2) := by
  have hln := ra2.len
  have RA := Lib.hid ra0_0
  have RB := Lib.hid ra0_1
  have RW := Lib.hid ra2
  clear ra0_0 ra0_1 ra2
  by_cases hc : CurveOk xa0_0 xa0_1
  · by_cases hw : waAll la2 xa2
    · by_cases hy : onC xa0_0 a1
      · by_cases h100 : la2 ≤ 100
        · have hok : loOk xa0_0 xa0_1 a1 xa2.length xa2 := by rw [hln]; exact ⟨hc, hy, hw, h100⟩
          have E1 := Lib.hid (lo_go hok)
          have EE := Lib.hid (lo_end hok)
          have EB := Lib.hid (lo_bad (ls := xa0_0) (vs := xa0_1) (y := a1) (xs := xa2))
          rw [hln] at E1 EE EB
          have HCD := Lib.hid (show ccode xa0_0 xa0_1 (onC xa0_0 a1) = 0 from ccode_ok hc hy)
          have HBD := Lib.hid (show wcode la2 xa2 True = 0 from wcode_ok ⟨hw, h100⟩ trivial)
          have HC := Lib.hid hc
          have HY := Lib.hid hy
          have HV := Lib.hid hw
          obtain ⟨u1, u2⟩ := vAt_bd hc hy
          have HB := Lib.hid (volW_bd hw (vAt xa0_0 xa0_1 a1))
          have hlb := RB.out.1
          have hc1 := hc.1
          have hc2 := hc.2.1
          generalize r0_LevelsOver xa0_0 xa0_1 a1 xa2 = R0 at *
          generalize r1_LevelsOver xa0_0 xa0_1 a1 xa2 = R1 at *
          have EL := Lib.hid (show loBad xa0_0 xa0_1 a1 xa2 = badW (vAt xa0_0 xa0_1 a1) (lastV xa0_1) xa2 from rfl)
          have ER := Lib.hid (show loRow xa0_0 xa0_1 a1 xa2 = rowW (fun k => lvAt xa0_0 xa0_1 (volW (vAt xa0_0 xa0_1 a1) xa2 (k + 1))) from rfl)
          obtain ⟨s0, hs0⟩ : ∃ s, s = vAt xa0_0 xa0_1 a1 := ⟨_, rfl⟩
          have HS0 := Lib.hid hs0.symm
          rw [← hs0] at u1 u2 HB EL ER
          rw [EL.out] at E1 EE EB
          rw [ER.out] at EE
          obtain ⟨l9, hl9⟩ : ∃ l, l = lastV xa0_1 := ⟨_, rfl⟩
          have HL9 := Lib.hid (show xa0_1.getD (la0_1 - 1) 0 = l9 by rw [hl9, ← hlb]; rfl)
          have HL8 := Lib.hid (show xa0_1.getD (xa0_1.length - 1) 0 = l9 by rw [hl9]; rfl)
          rw [← hl9] at E1 EE EB
          clear hc hw hy hs0 hl9 EL ER hok
          go_enter Tryd.func6, Tryd.ntmps6
          go_wp2_with (first | (go_at_call 18; refine (l05Code_t _ a0_0 la0_0 ca0_0 xa0_0 a0_1 la0_1 ca0_1 xa0_1 a1 _ (by first | omega | (simp; done) | (simp; omega)) ha0_0 ha0_1 ⟨by simp, by simp⟩ ((RA.out.below (by repeat (first | assumption | exact Below.refl _ _ | (refine Below.setCell ?_ (by first | omega | (simp; done) | (simp; omega)) _) | apply below_drewN | apply Below.drew | (refine Below.alloc ?_ (by first | omega | (simp; done) | (simp; omega)) _)))).mono (by first | omega | (simp; done) | (simp; omega))) ((RB.out.below (by repeat (first | assumption | exact Below.refl _ _ | (refine Below.setCell ?_ (by first | omega | (simp; done) | (simp; omega)) _) | apply below_drewN | apply Below.drew | (refine Below.alloc ?_ (by first | omega | (simp; done) | (simp; omega)) _)))).mono (by first | omega | (simp; done) | (simp; omega)))).mono ?_; rintro e1 W1 ⟨rfl, b1⟩; rw [HCD.out]; have s1 : w.heap.size < W1.heap.size := (by have := b1.size; (try simp at this); omega); obtain ⟨kb, fb⟩ := bcell b1; have z0 : W1.cell? ⟨w.heap.size, 0, none⟩ = some (.slice a0_0 la0_0 ca0_0) := (by rw [kb _ _ (by first | omega | (simp; done) | (simp; omega))]; first | (simp; done) | go_simp); have zf0 : W1.frozen? ⟨w.heap.size, 0, none⟩ = false := (by rw [fb _ _ (by first | omega | (simp; done) | (simp; omega))]; first | (simp; done) | go_simp); have z1 : W1.cell? ⟨w.heap.size, 1, none⟩ = some (.slice a0_1 la0_1 ca0_1) := (by rw [kb _ _ (by first | omega | (simp; done) | (simp; omega))]; first | (simp; done) | go_simp); have zf1 : W1.frozen? ⟨w.heap.size, 1, none⟩ = false := (by rw [fb _ _ (by first | omega | (simp; done) | (simp; omega))]; first | (simp; done) | go_simp); clear kb fb; have d1 : Below w.heap.size w W1 := (by repeat (first | assumption | exact Below.refl _ _ | (refine Below.trans ?_ (b1.mono (by first | omega | (simp; done) | (simp; omega)))) | (refine Below.setCell ?_ (by first | omega | (simp; done) | (simp; omega)) _) | apply below_drewN | apply Below.drew | (refine Below.alloc ?_ (by first | omega | (simp; done) | (simp; omega)) _))); have EB1 : Below (w.heap.size + 1) (w.alloc (.cells #[.slice a0_0 la0_0 ca0_0, .slice a0_1 la0_1 ca0_1] 30)) W1 := b1.mono (by simp)) | (go_at_call 19; refine (l13List_t _ _ _ xa2 _ ha2 ((RW.out.below d1).mono (by first | omega | (simp; done) | (simp; omega))) 0 HBD.out).mono ?_; rintro e2 w2 ⟨rfl, rfl⟩) | (go_at_call 20; refine (l05Volume_t _ a0_0 la0_0 ca0_0 xa0_0 a0_1 la0_1 ca0_1 xa0_1 a1 _ (by first | omega | (simp; done) | (simp; omega)) ⟨z0, z1⟩ ((RA.out.below d1).mono (by first | omega | (simp; done) | (simp; omega))) ((RB.out.below d1).mono (by first | omega | (simp; done) | (simp; omega))) HC.out HY.out).mono ?_; rintro e3 W3 ⟨rfl, b3⟩; rw [HS0.out]; have EB3 : Below (w.heap.size + 1) (w.alloc (.cells #[.slice a0_0 la0_0 ca0_0, .slice a0_1 la0_1 ca0_1] 30)) W3 := EB1.trans (b3.mono (by omega)); have s3 : w.heap.size < W3.heap.size := (by have := b3.size; omega)))
          go_loopw [10, 11, 12] (fun s v i wr => ∃ q : Nat, q ≤ la2 ∧ i = .int .i64 (q : Int) ∧ s = .int .i64 (volW s0 xa2 q) ∧ Below (w.heap.size + 1) (w.alloc (.cells #[.slice a0_0 la0_0 ca0_0, .slice a0_1 la0_1 ca0_1] 30)) wr ∧ w.heap.size + 1 ≤ wr.heap.size ∧ wr.ownsRow (w.heap.size + 1) 2 1 v q ((rowW (fun k => lvAt xa0_0 xa0_1 (volW s0 xa2 (k + 1))) q).map (Value.int .i64)) ∧ Hid (∀ j, j < q → 0 ≤ volW s0 xa2 (j + 1) ∧ volW s0 xa2 (j + 1) ≤ l9)) (fun _ _ i _ => la2 - (intOf i).toNat)
          case atStart => exact ⟨0, by omega, rfl, rfl, EB3.alloc (by omega) _, by simp; omega, owns_made rfl (by omega), Lib.hid (fun j hj => absurd hj (by omega))⟩
          case round =>
            obtain ⟨q, hq, rfl, rfl, hb, hz, hown, hpos⟩ := hrel
            have hbw : Below w.heap.size w wr := (Below.alloc (Below.refl _ _) (Nat.le_refl _) (.cells #[.slice a0_0 la0_0 ca0_0, .slice a0_1 la0_1 ca0_1] 30)).trans (hb.mono (by omega))
            have z0 : wr.cell? ⟨w.heap.size, 0, none⟩ = some (.slice a0_0 la0_0 ca0_0) := (hb.cell (p := ⟨w.heap.size, 0, none⟩) (Nat.lt_succ_self _)).trans (by first | (simp; done) | go_simp)
            have z1 : wr.cell? ⟨w.heap.size, 1, none⟩ = some (.slice a0_1 la0_1 ca0_1) := (hb.cell (p := ⟨w.heap.size, 1, none⟩) (Nat.lt_succ_self _)).trans (by first | (simp; done) | go_simp)
            by_cases hlt : q < la2
            · obtain ⟨b, oo, rfl, hbB, hcc⟩ := RW.out.at (by omega)
              have p := hcc q hlt
              clear hcc
              have hw := HV.out q hlt
              have hbd := HB.out (q + 1) (by omega)
              have HF := Lib.hid (show volW s0 xa2 (q + 1) = volW s0 xa2 q + netW (xa2.getD q zWater) from rfl)
              have HR := Lib.hid (rowW_succ (fun k => lvAt xa0_0 xa0_1 (volW s0 xa2 (k + 1))) q)
              obtain ⟨x, hx⟩ := getZW xa2 q
              rw [← hx] at p hw HF
              clear hx
              obtain ⟨x0, x1, x2, x3, x4⟩ := x
              have HP := Lib.hid (p.below hbw hbB)
              have HW := Lib.hid (net_any7 hw)
              obtain ⟨m, hm⟩ : ∃ m, m = netW ⟨x0, x1, x2, x3, x4⟩ := ⟨_, rfl⟩
              have HM := Lib.hid hm
              rw [← hm] at HF
              clear hm hw p
              obtain ⟨y, hy⟩ : ∃ y, y = volW s0 xa2 q := ⟨_, rfl⟩
              rw [← hy] at HF ⊢
              have f0 := IntWalk.i64_in (y + m) (by rw [← HF.out]; push_cast at hbd; omega)
              obtain ⟨z, hzz⟩ : ∃ z, z = y + m := ⟨_, rfl⟩
              have HZ := Lib.hid (show volW s0 xa2 (q + 1) = z by rw [hzz]; exact HF.out)
              have f1 : IntKind.i64.wrap (y + m) = z := f0.trans hzz.symm
              clear hbd hy HF hzz f0
              obtain ⟨ab', o', hA1, hB', hc'⟩ := RB.out.2 (by omega)
              have t9 := hc' (la0_1 - 1) (by omega)
              rw [HL9.out] at t9
              have t8 := (hbw.cell (p := ⟨ab', o' + (la0_1 - 1), none⟩) hB').trans t9
              clear hc' t9
              have i1 : la0_1 - 1 < la0_1 := by omega
              have i2 : (la0_1 : Int) - 1 < (la0_1 : Int) := by omega
              have i3 : (0 : Int) < (la0_1 : Int) := by omega
              have i4 : 0 < la0_1 := by omega
              have HNT := fun (q2 : Nat) (r : Nat) => q2
              clear HNT
              by_cases hneg : z < 0
              · have hE := badW_neg (n := la2) hpos.out hlt (by rw [HZ.out]; exact hneg)
                have er1 : R1 = 6 := by rw [E1.out, hE]
                have er0 : R0 = [] := EB.out (by rw [hE]; omega)
                subst er0 er1
                go_wp2_with (go_at_call 21; refine (netS_t _ _ x0 x1 x2 x3 x4 _ HP.out HW.out m HM.out).mono ?_; rintro e4 W4 ⟨rfl, b4⟩)
                go_ret2
                exact ⟨none, 0, rfl, hbw.trans (b4.mono (by omega)), rfl, fun h => absurd h (by simp)⟩
              · by_cases hmu : l9 < z
                · have hmu' : z > l9 := hmu
                  have hE := badW_much (n := la2) hpos.out hlt (by rw [HZ.out]; exact hneg) (by rw [HZ.out]; exact hmu)
                  have er1 : R1 = 10 := by rw [E1.out, hE]
                  have er0 : R0 = [] := EB.out (by rw [hE]; omega)
                  subst er0 er1 hA1
                  go_wp2_with (go_at_call 21; refine (netS_t _ _ x0 x1 x2 x3 x4 _ HP.out HW.out m HM.out).mono ?_; rintro e4 W4 ⟨rfl, b4⟩; have y0 := (b4.cell (p := ⟨w.heap.size, 0, none⟩) (show w.heap.size < wr.heap.size by omega)).trans z0; have y1 := (b4.cell (p := ⟨w.heap.size, 1, none⟩) (show w.heap.size < wr.heap.size by omega)).trans z1; have t7 := (b4.cell (p := ⟨ab', o' + (la0_1 - 1), none⟩) (show ab' < wr.heap.size by omega)).trans t8)
                  go_ret2
                  exact ⟨none, 0, rfl, hbw.trans (b4.mono (by omega)), rfl, fun h => absurd h (by simp)⟩
                · have hmu' : ¬ z > l9 := hmu
                  have HV9 := Lib.hid (show z ≤ xa0_1.getD (xa0_1.length - 1) 0 by rw [HL8.out]; omega)
                  have RB2 := Lib.hid RB.out
                  subst hA1
                  go_wp2_with (first | (go_at_call 21; refine (netS_t _ _ x0 x1 x2 x3 x4 _ HP.out HW.out m HM.out).mono ?_; rintro e4 W4 ⟨rfl, b4⟩; have y0 := (b4.cell (p := ⟨w.heap.size, 0, none⟩) (show w.heap.size < wr.heap.size by omega)).trans z0; have y1 := (b4.cell (p := ⟨w.heap.size, 1, none⟩) (show w.heap.size < wr.heap.size by omega)).trans z1; have t7 := (b4.cell (p := ⟨ab', o' + (la0_1 - 1), none⟩) (show ab' < wr.heap.size by omega)).trans t8; have d4 : Below w.heap.size w W4 := hbw.trans (b4.mono (by omega)); have s4 := b4.size; have hown4 := owns_below hown b4; have hb4 : Below (w.heap.size + 1) (w.alloc (.cells #[.slice a0_0 la0_0 ca0_0, .slice (some ⟨ab', o', none⟩) la0_1 ca0_1] 30)) W4 := hb.trans (b4.mono (by omega))) | (go_at_call 22; refine (l05Level_t _ a0_0 la0_0 ca0_0 xa0_0 _ la0_1 ca0_1 xa0_1 z _ (by omega) ha0_0 ha0_1 ⟨y0, y1⟩ ((RA.out.below d4).mono (by omega)) ((RB2.out.below d4).mono (by omega)) HC.out HV9.out).mono ?_; rintro e5 W5 ⟨rfl, b5⟩; have s5 := b5.size; have hown5 := owns_below hown4 b5; have hb5 : Below (w.heap.size + 1) (w.alloc (.cells #[.slice a0_0 la0_0 ca0_0, .slice (some ⟨ab', o', none⟩) la0_1 ca0_1] 30)) W5 := hb4.trans (b5.mono (by omega))) | (at_builtin; refine wpl_app1 rfl _ _ rfl _ _ _ _ _ _ rfl (by exact hown5) rfl (by omega) (by omega) ?_; intro v1 w1 hown1 hb1 hz1))
                  go_roundw
                  case rel => exact ⟨q + 1, by omega, by go_num, by rw [HZ.out], hb5.trans hb1, by omega, by rw [HR.out, HZ.out]; simpa using hown1, Lib.hid (fun j hj => by
                    by_cases e : j = q
                    · subst e; rw [HZ.out]; omega
                    · exact hpos.out j (by omega))⟩
                  case measure => simp [intOf]; omega
            · obtain rfl : q = la2 := by omega
              have hE := badW_ok hpos.out
              have er1 : R1 = 0 := by rw [E1.out, hE]
              have er0 := EE.out hE
              subst er1
              go_wp2
              obtain ⟨B, d, rfl, hw⟩ := own_wr hown
              go_ret2
              rw [er0, rowW_len]
              exact ⟨B, d, rfl, hbw, hw.lower (by omega)⟩
        · obtain ⟨e0, e1⟩ := lo_rg (ls := xa0_0) (vs := xa0_1) (y := a1) (xs := xa2) (by rw [hln]; exact ⟨hc, hw⟩) (fun g => h100 (by rw [← hln]; exact g.2))
          rw [e0, e1]
          have HCD := Lib.hid (show ccode xa0_0 xa0_1 (onC xa0_0 a1) = 0 from ccode_ok hc hy)
          have HBD := Lib.hid (show wcode la2 xa2 True = 2 from wcode_rg hw (fun g => h100 g.1))
          clear e0 e1
          go_enter Tryd.func6, Tryd.ntmps6
          go_wp2_with (first | (go_at_call 18; refine (l05Code_t _ a0_0 la0_0 ca0_0 xa0_0 a0_1 la0_1 ca0_1 xa0_1 a1 _ (by first | omega | (simp; done) | (simp; omega)) ha0_0 ha0_1 ⟨by simp, by simp⟩ ((RA.out.below (by repeat (first | assumption | exact Below.refl _ _ | (refine Below.setCell ?_ (by first | omega | (simp; done) | (simp; omega)) _) | apply below_drewN | apply Below.drew | (refine Below.alloc ?_ (by first | omega | (simp; done) | (simp; omega)) _)))).mono (by first | omega | (simp; done) | (simp; omega))) ((RB.out.below (by repeat (first | assumption | exact Below.refl _ _ | (refine Below.setCell ?_ (by first | omega | (simp; done) | (simp; omega)) _) | apply below_drewN | apply Below.drew | (refine Below.alloc ?_ (by first | omega | (simp; done) | (simp; omega)) _)))).mono (by first | omega | (simp; done) | (simp; omega)))).mono ?_; rintro e1 W1 ⟨rfl, b1⟩; rw [HCD.out]; have s1 : w.heap.size < W1.heap.size := (by have := b1.size; (try simp at this); omega); obtain ⟨kb, fb⟩ := bcell b1; have z0 : W1.cell? ⟨w.heap.size, 0, none⟩ = some (.slice a0_0 la0_0 ca0_0) := (by rw [kb _ _ (by first | omega | (simp; done) | (simp; omega))]; first | (simp; done) | go_simp); have zf0 : W1.frozen? ⟨w.heap.size, 0, none⟩ = false := (by rw [fb _ _ (by first | omega | (simp; done) | (simp; omega))]; first | (simp; done) | go_simp); have z1 : W1.cell? ⟨w.heap.size, 1, none⟩ = some (.slice a0_1 la0_1 ca0_1) := (by rw [kb _ _ (by first | omega | (simp; done) | (simp; omega))]; first | (simp; done) | go_simp); have zf1 : W1.frozen? ⟨w.heap.size, 1, none⟩ = false := (by rw [fb _ _ (by first | omega | (simp; done) | (simp; omega))]; first | (simp; done) | go_simp); clear kb fb; have d1 : Below w.heap.size w W1 := (by repeat (first | assumption | exact Below.refl _ _ | (refine Below.trans ?_ (b1.mono (by first | omega | (simp; done) | (simp; omega)))) | (refine Below.setCell ?_ (by first | omega | (simp; done) | (simp; omega)) _) | apply below_drewN | apply Below.drew | (refine Below.alloc ?_ (by first | omega | (simp; done) | (simp; omega)) _))); have EB1 : Below (w.heap.size + 1) (w.alloc (.cells #[.slice a0_0 la0_0 ca0_0, .slice a0_1 la0_1 ca0_1] 30)) W1 := b1.mono (by simp)) | (go_at_call 19; refine (l13List_t _ _ _ xa2 _ ha2 ((RW.out.below d1).mono (by first | omega | (simp; done) | (simp; omega))) 2 HBD.out).mono ?_; rintro e2 w2 ⟨rfl, rfl⟩))
          go_ret2
          exact ⟨none, 0, rfl, d1, rfl, fun h => absurd h (by simp)⟩
      · by_cases h100 : la2 ≤ 100
        · obtain ⟨e0, e1⟩ := lo_rg (ls := xa0_0) (vs := xa0_1) (y := a1) (xs := xa2) (by rw [hln]; exact ⟨hc, hw⟩) (fun g => hy g.1)
          rw [e0, e1]
          have HCD := Lib.hid (show ccode xa0_0 xa0_1 (onC xa0_0 a1) = 2 from ccode_no hc hy)
          have HBD := Lib.hid (show wcode la2 xa2 True = 0 from wcode_ok ⟨hw, h100⟩ trivial)
          clear e0 e1
          go_enter Tryd.func6, Tryd.ntmps6
          go_wp2_with (first | (go_at_call 18; refine (l05Code_t _ a0_0 la0_0 ca0_0 xa0_0 a0_1 la0_1 ca0_1 xa0_1 a1 _ (by first | omega | (simp; done) | (simp; omega)) ha0_0 ha0_1 ⟨by simp, by simp⟩ ((RA.out.below (by repeat (first | assumption | exact Below.refl _ _ | (refine Below.setCell ?_ (by first | omega | (simp; done) | (simp; omega)) _) | apply below_drewN | apply Below.drew | (refine Below.alloc ?_ (by first | omega | (simp; done) | (simp; omega)) _)))).mono (by first | omega | (simp; done) | (simp; omega))) ((RB.out.below (by repeat (first | assumption | exact Below.refl _ _ | (refine Below.setCell ?_ (by first | omega | (simp; done) | (simp; omega)) _) | apply below_drewN | apply Below.drew | (refine Below.alloc ?_ (by first | omega | (simp; done) | (simp; omega)) _)))).mono (by first | omega | (simp; done) | (simp; omega)))).mono ?_; rintro e1 W1 ⟨rfl, b1⟩; rw [HCD.out]; have s1 : w.heap.size < W1.heap.size := (by have := b1.size; (try simp at this); omega); obtain ⟨kb, fb⟩ := bcell b1; have z0 : W1.cell? ⟨w.heap.size, 0, none⟩ = some (.slice a0_0 la0_0 ca0_0) := (by rw [kb _ _ (by first | omega | (simp; done) | (simp; omega))]; first | (simp; done) | go_simp); have zf0 : W1.frozen? ⟨w.heap.size, 0, none⟩ = false := (by rw [fb _ _ (by first | omega | (simp; done) | (simp; omega))]; first | (simp; done) | go_simp); have z1 : W1.cell? ⟨w.heap.size, 1, none⟩ = some (.slice a0_1 la0_1 ca0_1) := (by rw [kb _ _ (by first | omega | (simp; done) | (simp; omega))]; first | (simp; done) | go_simp); have zf1 : W1.frozen? ⟨w.heap.size, 1, none⟩ = false := (by rw [fb _ _ (by first | omega | (simp; done) | (simp; omega))]; first | (simp; done) | go_simp); clear kb fb; have d1 : Below w.heap.size w W1 := (by repeat (first | assumption | exact Below.refl _ _ | (refine Below.trans ?_ (b1.mono (by first | omega | (simp; done) | (simp; omega)))) | (refine Below.setCell ?_ (by first | omega | (simp; done) | (simp; omega)) _) | apply below_drewN | apply Below.drew | (refine Below.alloc ?_ (by first | omega | (simp; done) | (simp; omega)) _))); have EB1 : Below (w.heap.size + 1) (w.alloc (.cells #[.slice a0_0 la0_0 ca0_0, .slice a0_1 la0_1 ca0_1] 30)) W1 := b1.mono (by simp)) | (go_at_call 19; refine (l13List_t _ _ _ xa2 _ ha2 ((RW.out.below d1).mono (by first | omega | (simp; done) | (simp; omega))) 0 HBD.out).mono ?_; rintro e2 w2 ⟨rfl, rfl⟩))
          go_ret2
          exact ⟨none, 0, rfl, d1, rfl, fun h => absurd h (by simp)⟩
        · obtain ⟨e0, e1⟩ := lo_rg (ls := xa0_0) (vs := xa0_1) (y := a1) (xs := xa2) (by rw [hln]; exact ⟨hc, hw⟩) (fun g => hy g.1)
          rw [e0, e1]
          have HCD := Lib.hid (show ccode xa0_0 xa0_1 (onC xa0_0 a1) = 2 from ccode_no hc hy)
          have HBD := Lib.hid (show wcode la2 xa2 True = 2 from wcode_rg hw (fun g => h100 g.1))
          clear e0 e1
          go_enter Tryd.func6, Tryd.ntmps6
          go_wp2_with (first | (go_at_call 18; refine (l05Code_t _ a0_0 la0_0 ca0_0 xa0_0 a0_1 la0_1 ca0_1 xa0_1 a1 _ (by first | omega | (simp; done) | (simp; omega)) ha0_0 ha0_1 ⟨by simp, by simp⟩ ((RA.out.below (by repeat (first | assumption | exact Below.refl _ _ | (refine Below.setCell ?_ (by first | omega | (simp; done) | (simp; omega)) _) | apply below_drewN | apply Below.drew | (refine Below.alloc ?_ (by first | omega | (simp; done) | (simp; omega)) _)))).mono (by first | omega | (simp; done) | (simp; omega))) ((RB.out.below (by repeat (first | assumption | exact Below.refl _ _ | (refine Below.setCell ?_ (by first | omega | (simp; done) | (simp; omega)) _) | apply below_drewN | apply Below.drew | (refine Below.alloc ?_ (by first | omega | (simp; done) | (simp; omega)) _)))).mono (by first | omega | (simp; done) | (simp; omega)))).mono ?_; rintro e1 W1 ⟨rfl, b1⟩; rw [HCD.out]; have s1 : w.heap.size < W1.heap.size := (by have := b1.size; (try simp at this); omega); obtain ⟨kb, fb⟩ := bcell b1; have z0 : W1.cell? ⟨w.heap.size, 0, none⟩ = some (.slice a0_0 la0_0 ca0_0) := (by rw [kb _ _ (by first | omega | (simp; done) | (simp; omega))]; first | (simp; done) | go_simp); have zf0 : W1.frozen? ⟨w.heap.size, 0, none⟩ = false := (by rw [fb _ _ (by first | omega | (simp; done) | (simp; omega))]; first | (simp; done) | go_simp); have z1 : W1.cell? ⟨w.heap.size, 1, none⟩ = some (.slice a0_1 la0_1 ca0_1) := (by rw [kb _ _ (by first | omega | (simp; done) | (simp; omega))]; first | (simp; done) | go_simp); have zf1 : W1.frozen? ⟨w.heap.size, 1, none⟩ = false := (by rw [fb _ _ (by first | omega | (simp; done) | (simp; omega))]; first | (simp; done) | go_simp); clear kb fb; have d1 : Below w.heap.size w W1 := (by repeat (first | assumption | exact Below.refl _ _ | (refine Below.trans ?_ (b1.mono (by first | omega | (simp; done) | (simp; omega)))) | (refine Below.setCell ?_ (by first | omega | (simp; done) | (simp; omega)) _) | apply below_drewN | apply Below.drew | (refine Below.alloc ?_ (by first | omega | (simp; done) | (simp; omega)) _))); have EB1 : Below (w.heap.size + 1) (w.alloc (.cells #[.slice a0_0 la0_0 ca0_0, .slice a0_1 la0_1 ca0_1] 30)) W1 := b1.mono (by simp)) | (go_at_call 19; refine (l13List_t _ _ _ xa2 _ ha2 ((RW.out.below d1).mono (by first | omega | (simp; done) | (simp; omega))) 2 HBD.out).mono ?_; rintro e2 w2 ⟨rfl, rfl⟩))
          go_ret2
          exact ⟨none, 0, rfl, d1, rfl, fun h => absurd h (by simp)⟩
    · by_cases hy : onC xa0_0 a1
      · obtain ⟨e0, e1⟩ := lo_inv (ls := xa0_0) (vs := xa0_1) (y := a1) (xs := xa2) (fun g => hw (by rw [← hln]; exact g.2))
        rw [e0, e1]
        have HCD := Lib.hid (show ccode xa0_0 xa0_1 (onC xa0_0 a1) = 0 from ccode_ok hc hy)
        have HBD := Lib.hid (show wcode la2 xa2 True = 1 from wcode_bad hw)
        clear e0 e1
        go_enter Tryd.func6, Tryd.ntmps6
        go_wp2_with (first | (go_at_call 18; refine (l05Code_t _ a0_0 la0_0 ca0_0 xa0_0 a0_1 la0_1 ca0_1 xa0_1 a1 _ (by first | omega | (simp; done) | (simp; omega)) ha0_0 ha0_1 ⟨by simp, by simp⟩ ((RA.out.below (by repeat (first | assumption | exact Below.refl _ _ | (refine Below.setCell ?_ (by first | omega | (simp; done) | (simp; omega)) _) | apply below_drewN | apply Below.drew | (refine Below.alloc ?_ (by first | omega | (simp; done) | (simp; omega)) _)))).mono (by first | omega | (simp; done) | (simp; omega))) ((RB.out.below (by repeat (first | assumption | exact Below.refl _ _ | (refine Below.setCell ?_ (by first | omega | (simp; done) | (simp; omega)) _) | apply below_drewN | apply Below.drew | (refine Below.alloc ?_ (by first | omega | (simp; done) | (simp; omega)) _)))).mono (by first | omega | (simp; done) | (simp; omega)))).mono ?_; rintro e1 W1 ⟨rfl, b1⟩; rw [HCD.out]; have s1 : w.heap.size < W1.heap.size := (by have := b1.size; (try simp at this); omega); obtain ⟨kb, fb⟩ := bcell b1; have z0 : W1.cell? ⟨w.heap.size, 0, none⟩ = some (.slice a0_0 la0_0 ca0_0) := (by rw [kb _ _ (by first | omega | (simp; done) | (simp; omega))]; first | (simp; done) | go_simp); have zf0 : W1.frozen? ⟨w.heap.size, 0, none⟩ = false := (by rw [fb _ _ (by first | omega | (simp; done) | (simp; omega))]; first | (simp; done) | go_simp); have z1 : W1.cell? ⟨w.heap.size, 1, none⟩ = some (.slice a0_1 la0_1 ca0_1) := (by rw [kb _ _ (by first | omega | (simp; done) | (simp; omega))]; first | (simp; done) | go_simp); have zf1 : W1.frozen? ⟨w.heap.size, 1, none⟩ = false := (by rw [fb _ _ (by first | omega | (simp; done) | (simp; omega))]; first | (simp; done) | go_simp); clear kb fb; have d1 : Below w.heap.size w W1 := (by repeat (first | assumption | exact Below.refl _ _ | (refine Below.trans ?_ (b1.mono (by first | omega | (simp; done) | (simp; omega)))) | (refine Below.setCell ?_ (by first | omega | (simp; done) | (simp; omega)) _) | apply below_drewN | apply Below.drew | (refine Below.alloc ?_ (by first | omega | (simp; done) | (simp; omega)) _))); have EB1 : Below (w.heap.size + 1) (w.alloc (.cells #[.slice a0_0 la0_0 ca0_0, .slice a0_1 la0_1 ca0_1] 30)) W1 := b1.mono (by simp)) | (go_at_call 19; refine (l13List_t _ _ _ xa2 _ ha2 ((RW.out.below d1).mono (by first | omega | (simp; done) | (simp; omega))) 1 HBD.out).mono ?_; rintro e2 w2 ⟨rfl, rfl⟩))
        go_ret2
        exact ⟨none, 0, rfl, d1, rfl, fun h => absurd h (by simp)⟩
      · obtain ⟨e0, e1⟩ := lo_inv (ls := xa0_0) (vs := xa0_1) (y := a1) (xs := xa2) (fun g => hw (by rw [← hln]; exact g.2))
        rw [e0, e1]
        have HCD := Lib.hid (show ccode xa0_0 xa0_1 (onC xa0_0 a1) = 2 from ccode_no hc hy)
        have HBD := Lib.hid (show wcode la2 xa2 True = 1 from wcode_bad hw)
        clear e0 e1
        go_enter Tryd.func6, Tryd.ntmps6
        go_wp2_with (first | (go_at_call 18; refine (l05Code_t _ a0_0 la0_0 ca0_0 xa0_0 a0_1 la0_1 ca0_1 xa0_1 a1 _ (by first | omega | (simp; done) | (simp; omega)) ha0_0 ha0_1 ⟨by simp, by simp⟩ ((RA.out.below (by repeat (first | assumption | exact Below.refl _ _ | (refine Below.setCell ?_ (by first | omega | (simp; done) | (simp; omega)) _) | apply below_drewN | apply Below.drew | (refine Below.alloc ?_ (by first | omega | (simp; done) | (simp; omega)) _)))).mono (by first | omega | (simp; done) | (simp; omega))) ((RB.out.below (by repeat (first | assumption | exact Below.refl _ _ | (refine Below.setCell ?_ (by first | omega | (simp; done) | (simp; omega)) _) | apply below_drewN | apply Below.drew | (refine Below.alloc ?_ (by first | omega | (simp; done) | (simp; omega)) _)))).mono (by first | omega | (simp; done) | (simp; omega)))).mono ?_; rintro e1 W1 ⟨rfl, b1⟩; rw [HCD.out]; have s1 : w.heap.size < W1.heap.size := (by have := b1.size; (try simp at this); omega); obtain ⟨kb, fb⟩ := bcell b1; have z0 : W1.cell? ⟨w.heap.size, 0, none⟩ = some (.slice a0_0 la0_0 ca0_0) := (by rw [kb _ _ (by first | omega | (simp; done) | (simp; omega))]; first | (simp; done) | go_simp); have zf0 : W1.frozen? ⟨w.heap.size, 0, none⟩ = false := (by rw [fb _ _ (by first | omega | (simp; done) | (simp; omega))]; first | (simp; done) | go_simp); have z1 : W1.cell? ⟨w.heap.size, 1, none⟩ = some (.slice a0_1 la0_1 ca0_1) := (by rw [kb _ _ (by first | omega | (simp; done) | (simp; omega))]; first | (simp; done) | go_simp); have zf1 : W1.frozen? ⟨w.heap.size, 1, none⟩ = false := (by rw [fb _ _ (by first | omega | (simp; done) | (simp; omega))]; first | (simp; done) | go_simp); clear kb fb; have d1 : Below w.heap.size w W1 := (by repeat (first | assumption | exact Below.refl _ _ | (refine Below.trans ?_ (b1.mono (by first | omega | (simp; done) | (simp; omega)))) | (refine Below.setCell ?_ (by first | omega | (simp; done) | (simp; omega)) _) | apply below_drewN | apply Below.drew | (refine Below.alloc ?_ (by first | omega | (simp; done) | (simp; omega)) _))); have EB1 : Below (w.heap.size + 1) (w.alloc (.cells #[.slice a0_0 la0_0 ca0_0, .slice a0_1 la0_1 ca0_1] 30)) W1 := b1.mono (by simp)) | (go_at_call 19; refine (l13List_t _ _ _ xa2 _ ha2 ((RW.out.below d1).mono (by first | omega | (simp; done) | (simp; omega))) 1 HBD.out).mono ?_; rintro e2 w2 ⟨rfl, rfl⟩))
        go_ret2
        exact ⟨none, 0, rfl, d1, rfl, fun h => absurd h (by simp)⟩
  · obtain ⟨D, hD⟩ : ∃ D, wcode la2 xa2 True = D := ⟨_, rfl⟩
    obtain ⟨e0, e1⟩ := lo_inv (ls := xa0_0) (vs := xa0_1) (y := a1) (xs := xa2) (fun g => hc g.1)
    rw [e0, e1]
    have HCD := Lib.hid (show ccode xa0_0 xa0_1 (onC xa0_0 a1) = 1 from ccode_bad hc)
    have HBD := Lib.hid hD
    clear hD
    clear e0 e1
    go_enter Tryd.func6, Tryd.ntmps6
    go_wp2_with (first | (go_at_call 18; refine (l05Code_t _ a0_0 la0_0 ca0_0 xa0_0 a0_1 la0_1 ca0_1 xa0_1 a1 _ (by first | omega | (simp; done) | (simp; omega)) ha0_0 ha0_1 ⟨by simp, by simp⟩ ((RA.out.below (by repeat (first | assumption | exact Below.refl _ _ | (refine Below.setCell ?_ (by first | omega | (simp; done) | (simp; omega)) _) | apply below_drewN | apply Below.drew | (refine Below.alloc ?_ (by first | omega | (simp; done) | (simp; omega)) _)))).mono (by first | omega | (simp; done) | (simp; omega))) ((RB.out.below (by repeat (first | assumption | exact Below.refl _ _ | (refine Below.setCell ?_ (by first | omega | (simp; done) | (simp; omega)) _) | apply below_drewN | apply Below.drew | (refine Below.alloc ?_ (by first | omega | (simp; done) | (simp; omega)) _)))).mono (by first | omega | (simp; done) | (simp; omega)))).mono ?_; rintro e1 W1 ⟨rfl, b1⟩; rw [HCD.out]; have s1 : w.heap.size < W1.heap.size := (by have := b1.size; (try simp at this); omega); obtain ⟨kb, fb⟩ := bcell b1; have z0 : W1.cell? ⟨w.heap.size, 0, none⟩ = some (.slice a0_0 la0_0 ca0_0) := (by rw [kb _ _ (by first | omega | (simp; done) | (simp; omega))]; first | (simp; done) | go_simp); have zf0 : W1.frozen? ⟨w.heap.size, 0, none⟩ = false := (by rw [fb _ _ (by first | omega | (simp; done) | (simp; omega))]; first | (simp; done) | go_simp); have z1 : W1.cell? ⟨w.heap.size, 1, none⟩ = some (.slice a0_1 la0_1 ca0_1) := (by rw [kb _ _ (by first | omega | (simp; done) | (simp; omega))]; first | (simp; done) | go_simp); have zf1 : W1.frozen? ⟨w.heap.size, 1, none⟩ = false := (by rw [fb _ _ (by first | omega | (simp; done) | (simp; omega))]; first | (simp; done) | go_simp); clear kb fb; have d1 : Below w.heap.size w W1 := (by repeat (first | assumption | exact Below.refl _ _ | (refine Below.trans ?_ (b1.mono (by first | omega | (simp; done) | (simp; omega)))) | (refine Below.setCell ?_ (by first | omega | (simp; done) | (simp; omega)) _) | apply below_drewN | apply Below.drew | (refine Below.alloc ?_ (by first | omega | (simp; done) | (simp; omega)) _))); have EB1 : Below (w.heap.size + 1) (w.alloc (.cells #[.slice a0_0 la0_0 ca0_0, .slice a0_1 la0_1 ca0_1] 30)) W1 := b1.mono (by simp)) | (go_at_call 19; refine (l13List_t _ _ _ xa2 _ ha2 ((RW.out.below d1).mono (by first | omega | (simp; done) | (simp; omega))) D HBD.out).mono ?_; rintro e2 w2 ⟨rfl, rfl⟩))
    go_ret2
    exact ⟨none, 0, rfl, d1, rfl, fun h => absurd h (by simp)⟩

theorem lo_code {ls vs : List Int} {y : Int} {n : Nat} {xs : List RWater} (hn : xs.length = n) (hc : CurveOk ls vs) (h : ¬ (waList n xs ∧ onC ls y)) : r0_LevelsOver ls vs y xs = [] ∧ r1_LevelsOver ls vs y xs = wcode n xs (onC ls y) := by
  subst hn
  refine ⟨if_neg (fun g => h ⟨g.1.2.2, g.1.2.1⟩), ?_⟩
  unfold r1_LevelsOver wcode
  by_cases hw : waAll xs.length xs
  · rw [if_pos ⟨hc, hw⟩, if_pos hw, if_neg (fun g => h ⟨⟨hw, g.2⟩, g.1⟩), if_neg (fun g => h ⟨⟨hw, g.1⟩, g.2⟩)]
  · rw [if_neg (fun g => hw g.2), if_neg hw]

set_option maxRecDepth 100000 in
set_option maxHeartbeats 3200000 in
theorem implC_LevelsOver (a0_0 : Option Addr) (la0_0 ca0_0 : Nat) (xa0_0 : List Int) (a0_1 : Option Addr) (la0_1 ca0_1 : Nat) (xa0_1 : List Int) (a1 : Int) (a2 : Option Addr) (la2 ca2 : Nat) (xa2 : List RWater) (w : World) (ha0_0 : la0_0 ≤ 1048576) (ra0_0 : Rd w w.heap.size a0_0 la0_0 xa0_0) (fa0_0 : Wf xa0_0) (ha0_1 : la0_1 ≤ 1048576) (ra0_1 : Rd w w.heap.size a0_1 la0_1 xa0_1) (fa0_1 : Wf xa0_1) (ha1 : (Lit.int .i64 a1).wf = true) (ha2 : la2 ≤ 1048576) (ra2 : Rd_Water w w.heap.size a2 la2 xa2) (fa2 : Wf_Water xa2) (se0 se1 : Addr) (hsent : Sent w w.heap.size se0 se1) :
    Calls Tryd.prog 9 #[.agg #[.slice a0_0 la0_0 ca0_0, .slice a0_1 la0_1 ca0_1], .int .i64 a1, .slice a2 la2 ca2] w fun e w' => ∃ B0 dB0, e = .returned (.tuple #[.slice B0 (r0_LevelsOver xa0_0 xa0_1 a1 xa2).length dB0, .int .i64 (r1_LevelsOver xa0_0 xa0_1 a1 xa2)]) ∧ Below w.heap.size w w' ∧ Wr w' w.heap.size B0 (r0_LevelsOver xa0_0 xa0_1 a1 xa2).length (r0_LevelsOver xa0_0 xa0_1 a1 xa2) := by
  have hln := ra2.len
  have RA := Lib.hid ra0_0
  have RB := Lib.hid ra0_1
  have RW := Lib.hid ra2
  have HSE := Lib.hid hsent
  clear ra0_0 ra0_1 ra2 hsent
  by_cases hc : CurveOk xa0_0 xa0_1
  · have HC1 := Lib.hid (show true = true ↔ CurveOk xa0_0 xa0_1 from ⟨fun _ => hc, fun _ => rfl⟩)
    have HC2 := Lib.hid (iff_of_true (rfl : true = true) hc)
    obtain ⟨v, hv⟩ : ∃ v, v = hasL xa0_0 a1 := ⟨_, rfl⟩
    have HV := Lib.hid hv
    have HVD := Lib.hid (show v = decide (onC xa0_0 a1) by rw [hv]; exact hasL_ok hc)
    clear hv
    by_cases h : waList la2 xa2 ∧ onC xa0_0 a1
    · have hok : loOk xa0_0 xa0_1 a1 xa2.length xa2 := by rw [hln]; exact ⟨hc, h.2, h.1⟩
      have E1 := Lib.hid (lo_go hok)
      have EE := Lib.hid (lo_end hok)
      have EB := Lib.hid (lo_bad (ls := xa0_0) (vs := xa0_1) (y := a1) (xs := xa2))
      rw [hln] at E1 EE EB
      have HC := Lib.hid hc
      have HY := Lib.hid h.2
      have HW := Lib.hid h.1
      have h100 := h.1.2
      have HCD := Lib.hid (show wcode la2 xa2 (onC xa0_0 a1) = 0 from wcode_ok h.1 h.2)
      obtain ⟨u1, u2⟩ := vAt_bd hc h.2
      generalize r0_LevelsOver xa0_0 xa0_1 a1 xa2 = R0 at *
      generalize r1_LevelsOver xa0_0 xa0_1 a1 xa2 = R1 at *
      have EL := Lib.hid (show loBad xa0_0 xa0_1 a1 xa2 = badW (vAt xa0_0 xa0_1 a1) (lastV xa0_1) xa2 from rfl)
      have ER := Lib.hid (show loRow xa0_0 xa0_1 a1 xa2 = rowW (fun k => lvAt xa0_0 xa0_1 (volW (vAt xa0_0 xa0_1 a1) xa2 (k + 1))) from rfl)
      obtain ⟨s0, hs0⟩ : ∃ s, s = vAt xa0_0 xa0_1 a1 := ⟨_, rfl⟩
      have HS0 := Lib.hid hs0.symm
      rw [← hs0] at u1 u2 EL ER
      rw [EL.out] at E1 EE EB
      rw [ER.out] at EE
      obtain ⟨l9, hl9⟩ : ∃ l, l = lastV xa0_1 := ⟨_, rfl⟩
      have HL8 := Lib.hid (show xa0_1.getD (xa0_1.length - 1) 0 = l9 by rw [hl9]; rfl)
      rw [← hl9] at E1 EE EB
      have HSO := Lib.hid (show volOk s0 from ⟨u1, u2⟩)
      obtain ⟨L, hL⟩ : ∃ L, L = rowW (fun k => volW s0 xa2 (k + 1)) la2 := ⟨_, rfl⟩
      have HLL := Lib.hid hL
      obtain ⟨i0, hi, hz0, hz1, hz2⟩ := info_parts info_i64
      have hmk := fun W => run_make_rowN (P := Tryd.prog) 22 2 i0 (.int .i64 0) Tryd.underlying22 hi hz0 .i64 .i64 la2 la2 (Nat.le_refl _) (by rw [hz2]; omega) (by omega) W
      rw [hz1] at hmk
      obtain ⟨cs, hcs⟩ : ∃ cs, cs = madeCells (Value.int .i64 0).cells (la2 * 1) := ⟨_, rfl⟩
      rw [← hcs] at hmk
      have hN := Lib.hid (fun W : World => show Half la2 W.heap.size 0 (fun k => lvAt xa0_0 xa0_1 (volW s0 xa2 (k + 1))) (List.replicate la2 0) 0 (W.alloc (.cells cs 2)) by rw [hcs]; exact Half.new W la2 _ _ (la2 * 1) (by omega))
      clear hc h hs0 hl9 EL ER hok hL hi hz0 hz1 hz2 hcs
      go_enter Tryd.func9, Tryd.ntmps9
      go_wp2_with (first | (go_at_call 25; refine (impl_vcurve a0_0 la0_0 ca0_0 xa0_0 a0_1 la0_1 ca0_1 xa0_1 _ ha0_0 ha0_1 ((RA.out.below (by repeat (first | assumption | exact Below.refl _ _ | (refine Below.setCell ?_ (by first | omega | (simp; done) | (simp; omega)) _) | apply below_drewN | apply Below.drew | (refine Below.alloc ?_ (by first | omega | (simp; done) | (simp; omega)) _)))).mono (by first | omega | (simp; done) | (simp; omega))) ((RB.out.below (by repeat (first | assumption | exact Below.refl _ _ | (refine Below.setCell ?_ (by first | omega | (simp; done) | (simp; omega)) _) | apply below_drewN | apply Below.drew | (refine Below.alloc ?_ (by first | omega | (simp; done) | (simp; omega)) _)))).mono (by first | omega | (simp; done) | (simp; omega))) true HC2.out).mono ?_; rintro e1 W1 ⟨rfl, b1⟩; have s1 : w.heap.size < W1.heap.size := (by have := b1.size; (try simp at this); omega); obtain ⟨kb1, fb1⟩ := bcell b1; have y0 : W1.cell? ⟨w.heap.size, 0, none⟩ = some (.slice a0_0 la0_0 ca0_0) := (by rw [kb1 _ _ (by first | omega | (simp; done) | (simp; omega))]; first | (simp; done) | go_simp); have yf0 : W1.frozen? ⟨w.heap.size, 0, none⟩ = false := (by rw [fb1 _ _ (by first | omega | (simp; done) | (simp; omega))]; first | (simp; done) | go_simp); have y1 : W1.cell? ⟨w.heap.size, 1, none⟩ = some (.slice a0_1 la0_1 ca0_1) := (by rw [kb1 _ _ (by first | omega | (simp; done) | (simp; omega))]; first | (simp; done) | go_simp); have yf1 : W1.frozen? ⟨w.heap.size, 1, none⟩ = false := (by rw [fb1 _ _ (by first | omega | (simp; done) | (simp; omega))]; first | (simp; done) | go_simp); clear kb1 fb1; have d1 : Below w.heap.size w W1 := (by repeat (first | assumption | exact Below.refl _ _ | (refine Below.trans ?_ (b1.mono (by first | omega | (simp; done) | (simp; omega)))) | (refine Below.setCell ?_ (by first | omega | (simp; done) | (simp; omega)) _) | apply below_drewN | apply Below.drew | (refine Below.alloc ?_ (by first | omega | (simp; done) | (simp; omega)) _))); have EB1 : Below (w.heap.size + 1) (w.alloc (.cells #[.slice a0_0 la0_0 ca0_0, .slice a0_1 la0_1 ca0_1] 30)) W1 := b1.mono (by simp)) | (go_at_call 27; refine (hasLevel_t a0_0 la0_0 ca0_0 xa0_0 a0_1 la0_1 ca0_1 a1 _ ha0_0 ((RA.out.below d1).mono d1.size) v HV.out).mono ?_; rintro e2 W2 ⟨rfl, b2⟩; have s2 : w.heap.size < W2.heap.size := (by have := b2.size; omega); obtain ⟨kb2, fb2⟩ := bcell b2; have z0 : W2.cell? ⟨w.heap.size, 0, none⟩ = some (.slice a0_0 la0_0 ca0_0) := (by rw [kb2 _ _ (by first | omega | (simp; done) | (simp; omega))]; first | (simp; done) | go_simp); have zf0 : W2.frozen? ⟨w.heap.size, 0, none⟩ = false := (by rw [fb2 _ _ (by first | omega | (simp; done) | (simp; omega))]; first | (simp; done) | go_simp); have z1 : W2.cell? ⟨w.heap.size, 1, none⟩ = some (.slice a0_1 la0_1 ca0_1) := (by rw [kb2 _ _ (by first | omega | (simp; done) | (simp; omega))]; first | (simp; done) | go_simp); have zf1 : W2.frozen? ⟨w.heap.size, 1, none⟩ = false := (by rw [fb2 _ _ (by first | omega | (simp; done) | (simp; omega))]; first | (simp; done) | go_simp); clear kb2 fb2; have d2 : Below w.heap.size w W2 := d1.trans (b2.mono d1.size); have EB2 : Below (w.heap.size + 1) (w.alloc (.cells #[.slice a0_0 la0_0 ca0_0, .slice a0_1 la0_1 ca0_1] 30)) W2 := EB1.trans (b2.mono (by omega))) | (go_at_call 26; refine (runCode_t _ _ _ xa2 v (onC xa0_0 a1) _ ha2 ((RW.out.below d2).mono d2.size) HVD.out 0 HCD.out).mono ?_; rintro e3 W3 ⟨rfl, b3⟩; have s3 : w.heap.size < W3.heap.size := (by have := b3.size; omega); obtain ⟨kb3, fb3⟩ := bcell b3; have u0 : W3.cell? ⟨w.heap.size, 0, none⟩ = some (.slice a0_0 la0_0 ca0_0) := (by rw [kb3 _ _ (by first | omega | (simp; done) | (simp; omega))]; first | (simp; done) | go_simp); have uf0 : W3.frozen? ⟨w.heap.size, 0, none⟩ = false := (by rw [fb3 _ _ (by first | omega | (simp; done) | (simp; omega))]; first | (simp; done) | go_simp); have u1 : W3.cell? ⟨w.heap.size, 1, none⟩ = some (.slice a0_1 la0_1 ca0_1) := (by rw [kb3 _ _ (by first | omega | (simp; done) | (simp; omega))]; first | (simp; done) | go_simp); have uf1 : W3.frozen? ⟨w.heap.size, 1, none⟩ = false := (by rw [fb3 _ _ (by first | omega | (simp; done) | (simp; omega))]; first | (simp; done) | go_simp); clear kb3 fb3; have d3 : Below w.heap.size w W3 := d2.trans (b3.mono d2.size); have EB3 : Below (w.heap.size + 1) (w.alloc (.cells #[.slice a0_0 la0_0 ca0_0, .slice a0_1 la0_1 ca0_1] 30)) W3 := EB2.trans (b3.mono (by omega))) | (go_at_call 29; have A3 : Below W3.heap.size W3 (W3.alloc (.cells cs 2)) := Below.alloc (Below.refl _ _) (Nat.le_refl _) _; have d3a : Below w.heap.size w (W3.alloc (.cells cs 2)) := d3.trans (A3.mono (by omega)); refine (volumeAt_t a0_0 la0_0 ca0_0 xa0_0 a0_1 la0_1 ca0_1 xa0_1 a1 _ ha0_0 ((RA.out.below d3a).mono d3a.size) ((RB.out.below d3a).mono d3a.size) HC.out HY.out).mono ?_; rintro e4 W4 ⟨rfl, b4⟩; rw [HS0.out]; have s4 : W3.heap.size < W4.heap.size := (by have := b4.size; simp at this; omega); have d4 : Below w.heap.size w W4 := d3a.trans (b4.mono d3a.size); have EB4 : Below (w.heap.size + 1) (w.alloc (.cells #[.slice a0_0 la0_0 ca0_0, .slice a0_1 la0_1 ca0_1] 30)) W4 := (EB3.trans (A3.mono (by omega))).trans (b4.mono (by simp; omega)); have HH4 := Lib.hid ((hN.out W3).belowW b4 (by simp))) | (go_at_call 28; refine (volsI_t s0 _ _ _ xa2 _ ((RW.out.below d4).mono d4.size) HW.out HSO.out L HLL.out).mono ?_; rintro e5 W5 ⟨B, dd, rfl, b5, hw5⟩; have HWR := Lib.hid hw5; clear hw5; have HH := Lib.hid (HH4.out.belowW b5 s4); have d5 : Below w.heap.size w W5 := d4.trans (b5.mono d4.size); have EB5 : Below (w.heap.size + 1) (w.alloc (.cells #[.slice a0_0 la0_0 ca0_0, .slice a0_1 la0_1 ca0_1] 30)) W5 := EB4.trans (b5.mono (by omega)); have s5 : W4.heap.size ≤ W5.heap.size := b5.size))
      clear b1 b2 b3 b4 b5
      go_loopw [10, 11, 12, 13, 34] (fun _ _ _ _ i wr => ∃ q : Nat, q ≤ la2 ∧ i = .int .i64 (q : Int) ∧ Below (w.heap.size + 1) (w.alloc (.cells #[.slice a0_0 la0_0 ca0_0, .slice a0_1 la0_1 ca0_1] 30)) wr ∧ W4.heap.size ≤ wr.heap.size ∧ Hid (Wr wr W4.heap.size B la2 L) ∧ Hid (Half la2 W3.heap.size 0 (fun k => lvAt xa0_0 xa0_1 (volW s0 xa2 (k + 1))) (List.replicate la2 0) q wr) ∧ Hid (∀ j, j < q → 0 ≤ volW s0 xa2 (j + 1) ∧ volW s0 xa2 (j + 1) ≤ l9)) (fun _ _ _ _ i _ => la2 - (intOf i).toNat)
      case atStart => exact ⟨0, by omega, rfl, EB5, s5, HWR, HH, Lib.hid (fun j hj => absurd hj (by omega))⟩
      case round =>
        obtain ⟨q, hq, rfl, hb, hz, hWR, hH, hpos⟩ := hrel
        have hbw : Below w.heap.size w wr := (Below.alloc (Below.refl _ _) (Nat.le_refl _) (.cells #[.slice a0_0 la0_0 ca0_0, .slice a0_1 la0_1 ca0_1] 30)).trans (hb.mono (by omega))
        have z0 : wr.cell? ⟨w.heap.size, 0, none⟩ = some (.slice a0_0 la0_0 ca0_0) := (hb.cell (p := ⟨w.heap.size, 0, none⟩) (Nat.lt_succ_self _)).trans (by first | (simp; done) | go_simp)
        have z1 : wr.cell? ⟨w.heap.size, 1, none⟩ = some (.slice a0_1 la0_1 ca0_1) := (hb.cell (p := ⟨w.heap.size, 1, none⟩) (Nat.lt_succ_self _)).trans (by first | (simp; done) | go_simp)
        by_cases hlt : q < la2
        · obtain ⟨ab, oo, rfl, hbl, hbB, hcc⟩ := hWR.out.2 (by omega)
          have p := (hcc q hlt).1
          clear hcc
          rw [HLL.out, rowW_at _ _ _ hlt] at p
          obtain ⟨z, hzz⟩ : ∃ z, z = volW s0 xa2 (q + 1) := ⟨_, rfl⟩
          rw [← hzz] at p
          have HZ := Lib.hid hzz.symm
          clear hzz
          have hsw := hbw.size
          have SN := Lib.hid ((HSE.out.below hbw).mono hbw.size)
          by_cases hneg : z < 0
          · have hE := badW_neg (n := la2) hpos.out hlt (by rw [HZ.out]; exact hneg)
            have er1 : R1 = 6 := by rw [E1.out, hE]
            have er0 : R0 = [] := EB.out (by rw [hE]; omega)
            subst er0 er1
            go_wp2_with (first | (go_at_call 30; refine (levelAt_neg a0_0 la0_0 ca0_0 xa0_0 a0_1 la0_1 ca0_1 xa0_1 z _ se0 se1 SN.out ha0_0 ha0_1 ((RA.out.below hbw).mono hsw) ((RB.out.below hbw).mono hsw) HC.out hneg).mono ?_; rintro e6 W6 ⟨rfl, b6⟩; have d6 : Below w.heap.size w W6 := hbw.trans (b6.mono hsw)) | (go_at_call 31; refine (waterCode_0 se0 se1 _ _ (HSE.out.below d6)).mono ?_; rintro e7 w7 ⟨rfl, rfl⟩))
            go_ret2
            exact ⟨none, 0, rfl, d6, rfl, fun h => absurd h (by simp)⟩
          · by_cases hmu : l9 < z
            · have hE := badW_much (n := la2) hpos.out hlt (by rw [HZ.out]; exact hneg) (by rw [HZ.out]; exact hmu)
              have er1 : R1 = 10 := by rw [E1.out, hE]
              have er0 : R0 = [] := EB.out (by rw [hE]; omega)
              have HMU := Lib.hid (show xa0_1.getD (xa0_1.length - 1) 0 < z by rw [HL8.out]; exact hmu)
              have HNG := Lib.hid hneg
              subst er0 er1
              go_wp2_with (first | (go_at_call 30; refine (levelAt_much a0_0 la0_0 ca0_0 xa0_0 a0_1 la0_1 ca0_1 xa0_1 z _ se0 se1 SN.out ha0_0 ha0_1 ((RA.out.below hbw).mono hsw) ((RB.out.below hbw).mono hsw) HC.out HNG.out HMU.out).mono ?_; rintro e6 W6 ⟨rfl, b6⟩; have d6 : Below w.heap.size w W6 := hbw.trans (b6.mono hsw)) | (go_at_call 31; refine (waterCode_1 se0 se1 _ _ (HSE.out.below d6)).mono ?_; rintro e7 w7 ⟨rfl, rfl⟩))
              go_ret2
              exact ⟨none, 0, rfl, d6, rfl, fun h => absurd h (by simp)⟩
            · have HLE := Lib.hid (show z ≤ xa0_1.getD (xa0_1.length - 1) 0 by rw [HL8.out]; omega)
              have HNG := Lib.hid hneg
              have HLV := Lib.hid (show lvAt xa0_0 xa0_1 z = (fun k => lvAt xa0_0 xa0_1 (volW s0 xa2 (k + 1))) q by show lvAt xa0_0 xa0_1 z = lvAt xa0_0 xa0_1 (volW s0 xa2 (q + 1)); rw [HZ.out])
              obtain ⟨lv, hlv⟩ : ∃ l, l = lvAt xa0_0 xa0_1 z := ⟨_, rfl⟩
              have HLT := Lib.hid (fun W h1 h2 h3 => (show lvAt xa0_0 xa0_1 z = lv from hlv.symm) ▸ levelAt_t a0_0 la0_0 ca0_0 xa0_0 a0_1 la0_1 ca0_1 xa0_1 z W se0 se1 h1 ha0_0 ha0_1 h2 h3 HC.out HNG.out HLE.out)
              rw [← hlv] at HLV
              clear hlv
              go_wp2_with (first | (go_at_call 30; refine (HLT.out _ SN.out ((RA.out.below hbw).mono hsw) ((RB.out.below hbw).mono hsw)).mono ?_; rintro e6 W6 ⟨rfl, b6⟩; have d6 : Below w.heap.size w W6 := hbw.trans (b6.mono hsw); have s6 := b6.size; have h6 := hH.out.belowW b6 (by omega); obtain ⟨g1, g2⟩ := h6 q hlt; rw [Nat.zero_add] at g1 g2; have EB6 : Below (w.heap.size + 1) (w.alloc (.cells #[.slice a0_0 la0_0 ca0_0, .slice a0_1 la0_1 ca0_1] 30)) W6 := hb.trans (b6.mono (by omega))))
              go_roundw
              case rel => exact ⟨q + 1, by omega, by go_num, EB6.setCell (by show w.heap.size + 1 ≤ W3.heap.size; omega) _, by simp [World.setCell]; omega, Lib.hid ((hWR.out.below b6).abv (Abv.setCell (Abv.refl _ _) (by show W3.heap.size < W4.heap.size; omega) _)), Lib.hid (by have := h6.step lv HLV.out; rw [Nat.zero_add] at this; exact this), Lib.hid (fun j hj => by
                by_cases e : j = q
                · subst e; rw [HZ.out]; omega
                · exact hpos.out j (by omega))⟩
              case measure => simp [intOf]; omega
        · obtain rfl : q = la2 := by omega
          have hE := badW_ok hpos.out
          have er1 : R1 = 0 := by rw [E1.out, hE]
          have er0 := EE.out hE
          have hw := hH.out.done (base := w.heap.size) (ys := R0) (by rw [er0, rowW_len]) (fun j hj => by rw [er0]; exact rowW_at _ q j hj) (by omega) (by omega)
          have hR0 : R0.length = q := by rw [er0, rowW_len]
          subst er1
          clear er0
          go_wp2
          go_ret2
          rw [hR0]
          exact ⟨_, _, rfl, hbw, hw⟩
    · obtain ⟨e0, e1⟩ := lo_code hln hc h
      rw [e0, e1]
      have e6 := wcode_ne (P := onC xa0_0 a1) h
      obtain ⟨C, hC⟩ : ∃ C, wcode la2 xa2 (onC xa0_0 a1) = C := ⟨_, rfl⟩
      have HCD := Lib.hid hC
      rw [hC] at e6 ⊢
      clear e0 e1 h hC hc
      go_enter Tryd.func9, Tryd.ntmps9
      go_wp2_with (first | (go_at_call 25; refine (impl_vcurve a0_0 la0_0 ca0_0 xa0_0 a0_1 la0_1 ca0_1 xa0_1 _ ha0_0 ha0_1 ((RA.out.below (by repeat (first | assumption | exact Below.refl _ _ | (refine Below.setCell ?_ (by first | omega | (simp; done) | (simp; omega)) _) | apply below_drewN | apply Below.drew | (refine Below.alloc ?_ (by first | omega | (simp; done) | (simp; omega)) _)))).mono (by first | omega | (simp; done) | (simp; omega))) ((RB.out.below (by repeat (first | assumption | exact Below.refl _ _ | (refine Below.setCell ?_ (by first | omega | (simp; done) | (simp; omega)) _) | apply below_drewN | apply Below.drew | (refine Below.alloc ?_ (by first | omega | (simp; done) | (simp; omega)) _)))).mono (by first | omega | (simp; done) | (simp; omega))) true HC2.out).mono ?_; rintro e1 W1 ⟨rfl, b1⟩; have s1 : w.heap.size < W1.heap.size := (by have := b1.size; (try simp at this); omega); obtain ⟨kb1, fb1⟩ := bcell b1; have y0 : W1.cell? ⟨w.heap.size, 0, none⟩ = some (.slice a0_0 la0_0 ca0_0) := (by rw [kb1 _ _ (by first | omega | (simp; done) | (simp; omega))]; first | (simp; done) | go_simp); have yf0 : W1.frozen? ⟨w.heap.size, 0, none⟩ = false := (by rw [fb1 _ _ (by first | omega | (simp; done) | (simp; omega))]; first | (simp; done) | go_simp); have y1 : W1.cell? ⟨w.heap.size, 1, none⟩ = some (.slice a0_1 la0_1 ca0_1) := (by rw [kb1 _ _ (by first | omega | (simp; done) | (simp; omega))]; first | (simp; done) | go_simp); have yf1 : W1.frozen? ⟨w.heap.size, 1, none⟩ = false := (by rw [fb1 _ _ (by first | omega | (simp; done) | (simp; omega))]; first | (simp; done) | go_simp); clear kb1 fb1; have d1 : Below w.heap.size w W1 := (by repeat (first | assumption | exact Below.refl _ _ | (refine Below.trans ?_ (b1.mono (by first | omega | (simp; done) | (simp; omega)))) | (refine Below.setCell ?_ (by first | omega | (simp; done) | (simp; omega)) _) | apply below_drewN | apply Below.drew | (refine Below.alloc ?_ (by first | omega | (simp; done) | (simp; omega)) _))); have EB1 : Below (w.heap.size + 1) (w.alloc (.cells #[.slice a0_0 la0_0 ca0_0, .slice a0_1 la0_1 ca0_1] 30)) W1 := b1.mono (by simp)) | (go_at_call 27; refine (hasLevel_t a0_0 la0_0 ca0_0 xa0_0 a0_1 la0_1 ca0_1 a1 _ ha0_0 ((RA.out.below d1).mono d1.size) v HV.out).mono ?_; rintro e2 W2 ⟨rfl, b2⟩; have s2 : w.heap.size < W2.heap.size := (by have := b2.size; omega); obtain ⟨kb2, fb2⟩ := bcell b2; have z0 : W2.cell? ⟨w.heap.size, 0, none⟩ = some (.slice a0_0 la0_0 ca0_0) := (by rw [kb2 _ _ (by first | omega | (simp; done) | (simp; omega))]; first | (simp; done) | go_simp); have zf0 : W2.frozen? ⟨w.heap.size, 0, none⟩ = false := (by rw [fb2 _ _ (by first | omega | (simp; done) | (simp; omega))]; first | (simp; done) | go_simp); have z1 : W2.cell? ⟨w.heap.size, 1, none⟩ = some (.slice a0_1 la0_1 ca0_1) := (by rw [kb2 _ _ (by first | omega | (simp; done) | (simp; omega))]; first | (simp; done) | go_simp); have zf1 : W2.frozen? ⟨w.heap.size, 1, none⟩ = false := (by rw [fb2 _ _ (by first | omega | (simp; done) | (simp; omega))]; first | (simp; done) | go_simp); clear kb2 fb2; have d2 : Below w.heap.size w W2 := d1.trans (b2.mono d1.size); have EB2 : Below (w.heap.size + 1) (w.alloc (.cells #[.slice a0_0 la0_0 ca0_0, .slice a0_1 la0_1 ca0_1] 30)) W2 := EB1.trans (b2.mono (by omega))) | (go_at_call 26; refine (runCode_t _ _ _ xa2 v (onC xa0_0 a1) _ ha2 ((RW.out.below d2).mono d2.size) HVD.out C HCD.out).mono ?_; rintro e3 W3 ⟨rfl, b3⟩; have s3 : w.heap.size < W3.heap.size := (by have := b3.size; omega); obtain ⟨kb3, fb3⟩ := bcell b3; have u0 : W3.cell? ⟨w.heap.size, 0, none⟩ = some (.slice a0_0 la0_0 ca0_0) := (by rw [kb3 _ _ (by first | omega | (simp; done) | (simp; omega))]; first | (simp; done) | go_simp); have uf0 : W3.frozen? ⟨w.heap.size, 0, none⟩ = false := (by rw [fb3 _ _ (by first | omega | (simp; done) | (simp; omega))]; first | (simp; done) | go_simp); have u1 : W3.cell? ⟨w.heap.size, 1, none⟩ = some (.slice a0_1 la0_1 ca0_1) := (by rw [kb3 _ _ (by first | omega | (simp; done) | (simp; omega))]; first | (simp; done) | go_simp); have uf1 : W3.frozen? ⟨w.heap.size, 1, none⟩ = false := (by rw [fb3 _ _ (by first | omega | (simp; done) | (simp; omega))]; first | (simp; done) | go_simp); clear kb3 fb3; have d3 : Below w.heap.size w W3 := d2.trans (b3.mono d2.size); have EB3 : Below (w.heap.size + 1) (w.alloc (.cells #[.slice a0_0 la0_0 ca0_0, .slice a0_1 la0_1 ca0_1] 30)) W3 := EB2.trans (b3.mono (by omega))))
      go_ret2
      exact ⟨none, 0, rfl, d3, rfl, fun h => absurd h (by simp)⟩
  · obtain ⟨e0, e1⟩ := lo_inv (ls := xa0_0) (vs := xa0_1) (y := a1) (xs := xa2) (fun g => hc g.1)
    rw [e0, e1]
    have HC2 := Lib.hid (show false = true ↔ CurveOk xa0_0 xa0_1 from ⟨fun h => (by cases h), fun h => absurd h hc⟩)
    clear e0 e1 hc
    go_enter Tryd.func9, Tryd.ntmps9
    go_wp2_with (first | (go_at_call 25; refine (impl_vcurve a0_0 la0_0 ca0_0 xa0_0 a0_1 la0_1 ca0_1 xa0_1 _ ha0_0 ha0_1 ((RA.out.below (by repeat (first | assumption | exact Below.refl _ _ | (refine Below.setCell ?_ (by first | omega | (simp; done) | (simp; omega)) _) | apply below_drewN | apply Below.drew | (refine Below.alloc ?_ (by first | omega | (simp; done) | (simp; omega)) _)))).mono (by first | omega | (simp; done) | (simp; omega))) ((RB.out.below (by repeat (first | assumption | exact Below.refl _ _ | (refine Below.setCell ?_ (by first | omega | (simp; done) | (simp; omega)) _) | apply below_drewN | apply Below.drew | (refine Below.alloc ?_ (by first | omega | (simp; done) | (simp; omega)) _)))).mono (by first | omega | (simp; done) | (simp; omega))) false HC2.out).mono ?_; rintro e1 W1 ⟨rfl, b1⟩; have s1 : w.heap.size < W1.heap.size := (by have := b1.size; (try simp at this); omega); obtain ⟨kb1, fb1⟩ := bcell b1; have y0 : W1.cell? ⟨w.heap.size, 0, none⟩ = some (.slice a0_0 la0_0 ca0_0) := (by rw [kb1 _ _ (by first | omega | (simp; done) | (simp; omega))]; first | (simp; done) | go_simp); have yf0 : W1.frozen? ⟨w.heap.size, 0, none⟩ = false := (by rw [fb1 _ _ (by first | omega | (simp; done) | (simp; omega))]; first | (simp; done) | go_simp); have y1 : W1.cell? ⟨w.heap.size, 1, none⟩ = some (.slice a0_1 la0_1 ca0_1) := (by rw [kb1 _ _ (by first | omega | (simp; done) | (simp; omega))]; first | (simp; done) | go_simp); have yf1 : W1.frozen? ⟨w.heap.size, 1, none⟩ = false := (by rw [fb1 _ _ (by first | omega | (simp; done) | (simp; omega))]; first | (simp; done) | go_simp); clear kb1 fb1; have d1 : Below w.heap.size w W1 := (by repeat (first | assumption | exact Below.refl _ _ | (refine Below.trans ?_ (b1.mono (by first | omega | (simp; done) | (simp; omega)))) | (refine Below.setCell ?_ (by first | omega | (simp; done) | (simp; omega)) _) | apply below_drewN | apply Below.drew | (refine Below.alloc ?_ (by first | omega | (simp; done) | (simp; omega)) _))); have EB1 : Below (w.heap.size + 1) (w.alloc (.cells #[.slice a0_0 la0_0 ca0_0, .slice a0_1 la0_1 ca0_1] 30)) W1 := b1.mono (by simp)))
    go_ret2
    exact ⟨none, 0, rfl, d1, rfl, fun h => absurd h (by simp)⟩

end Go.Proofs.YtfpfmfhhcgafcabDoor
