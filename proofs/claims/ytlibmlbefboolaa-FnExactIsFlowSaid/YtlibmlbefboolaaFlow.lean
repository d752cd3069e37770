/- Contracts: the program's sum of flows, and whether they lead water. -/
import Derived.Test.YtlibmlbefboolaaLead
namespace Go.Proofs.Ytlibmlbefboolaa
open Go.RowKit

theorem out_from {xs : List RDitch} {fl : List Int} {j v : Int} {k : Nat} {y0 y1 y2 : Int} (hx : (⟨y0, y1, y2⟩ : RDitch) = xs.getD k zDitch) (hv : v = fl.getD k 0) (h3 : y0 ≠ y1) (h : j = y0) : outOf xs fl j (k + 1) = outOf xs fl j k + v := by
  rw [outOf, ← hx, ← hv]
  simp only
  have : ¬ y1 = j := fun e => h3 (by rw [← h, e])
  rw [if_pos h.symm, if_neg this]
  omega
theorem out_to {xs : List RDitch} {fl : List Int} {j v : Int} {k : Nat} {y0 y1 y2 : Int} (hx : (⟨y0, y1, y2⟩ : RDitch) = xs.getD k zDitch) (hv : v = fl.getD k 0) (h0 : ¬ j = y0) (h : j = y1) : outOf xs fl j (k + 1) = outOf xs fl j k - v := by
  rw [outOf, ← hx, ← hv]
  simp only
  rw [if_neg (fun e => h0 e.symm), if_pos h.symm]
  omega
theorem out_no {xs : List RDitch} {fl : List Int} {j : Int} {k : Nat} {y0 y1 y2 : Int} (hx : (⟨y0, y1, y2⟩ : RDitch) = xs.getD k zDitch) (h0 : ¬ j = y0) (h : ¬ j = y1) : outOf xs fl j (k + 1) = outOf xs fl j k := by
  rw [outOf, ← hx]
  simp only
  rw [if_neg (fun e => h0 e.symm), if_neg (fun e => h e.symm)]
  omega

set_option maxHeartbeats 1600000 in
theorem sum_t (J : Int) (A : Option Addr) (n k : Nat) (xs : List RDitch) (F : Option Addr) (c : Nat) (fl : List Int) (j : Int) (w : World) (hn : n ≤ 1048576) (hx : Rd_Ditch w w.heap.size A n xs) (ha : Rd w w.heap.size F n fl) (hok : NetOk J xs) (hfit : fits xs fl xs.length) :
    Calls Try.prog 50 #[.agg #[.int .i64 J, .slice A n k, .slice F n c], .int .i64 j] w fun e w' => e = .returned (.int .i64 (outOf xs fl j xs.length)) ∧ Below w.heap.size w w' := by
  have hln := hx.len
  have HX := Lib.hid hx
  have HA := Lib.hid ha
  have HK := Lib.hid hok
  have HF := Lib.hid hfit
  have HLN := Lib.hid hln
  clear hx ha hok hfit hln
  go_enter Try.func50, Try.ntmps50
  go_wp2
  go_loopw [5, 6, 7, 12] (fun s _ _ i wr => ∃ q : Nat, q ≤ n ∧ i = .int .i64 (q : Int) ∧ s = .int .i64 (outOf xs fl j q) ∧ wr.cell? ⟨w.heap.size, 2, none⟩ = some (.slice F n c) ∧ Below w.heap.size w wr ∧ w.heap.size < wr.heap.size) (fun _ _ _ i _ => n - (intOf i).toNat)
  case atStart => exact ⟨0, by omega, rfl, rfl, by simp, (by repeat (first | assumption | exact Below.refl _ _ | (refine Below.setCell ?_ (by first | omega | (simp; done) | (simp; omega)) _) | apply below_drewN | apply Below.drew | (refine Below.alloc ?_ (by first | omega | (simp; done) | (simp; omega)) _))), by simp⟩
  case round =>
    obtain ⟨q, hq, rfl, rfl, d2, hb, hs⟩ := hrel
    have hsz := hb.size
    have hfq : fits xs fl q := fun i hi => HF.out i (by rw [HLN.out]; omega)
    obtain ⟨u1, u2⟩ := outOf_z j HK.out (k := q) (by rw [HLN.out]; omega) hfq
    clear hfq
    by_cases hlt : q < n
    · obtain ⟨ab, o, rfl, hB, hc⟩ := (HX.out.below hb).at (by omega)
      obtain ⟨fb, fo, rfl, hfB, hfc⟩ := (HA.out.below hb).2 (by omega)
      have p := hc q hlt
      have pf := hfc q hlt
      clear hc hfc
      have hd := HK.out.2.2 q (by rw [HLN.out]; exact hlt)
      have hv2 := HF.out q (by rw [HLN.out]; exact hlt)
      obtain ⟨x, hx⟩ := getZ xs q
      obtain ⟨v, hv⟩ : ∃ v, v = fl.getD q 0 := ⟨_, rfl⟩
      rw [← hx] at p hd hv2
      rw [← hv] at pf hv2
      obtain ⟨y0, y1, y2⟩ := x
      obtain ⟨p0, p1, p2⟩ := p
      obtain ⟨_, _, h3, hd1, hd2⟩ := hd
      simp only at p0 p1 p2 h3 hd1 hd2 hv2
      obtain ⟨v1, v2⟩ := hv2
      have n0 : w.heap.size ≠ wr.heap.size := by omega
      have n1 : fb < wr.heap.size := by omega
      by_cases h0 : j = y0
      · have e0 : (j == y0) = true := by simp [h0]
        have st := Lib.hid (out_from hx hv h3 h0)
        have HE := Lib.hid hx
        clear hx hv h0 h3
        generalize outOf xs fl j q = s0 at u1 u2 st ⊢
        go_wp2
        go_roundw
        case rel => exact ⟨q + 1, by omega, by go_num, by rw [st.out], by rw [World.cell?_alloc_lt _ _ _ hs]; exact d2, (by repeat (first | assumption | exact Below.refl _ _ | (refine Below.setCell ?_ (by first | omega | (simp; done) | (simp; omega)) _) | apply below_drewN | apply Below.drew | (refine Below.alloc ?_ (by first | omega | (simp; done) | (simp; omega)) _))), (by first | omega | (simp; done) | (simp; omega))⟩
        case measure => simp [intOf]; omega
      · have e0 : (j == y0) = false := by simp [h0]
        by_cases h1 : j = y1
        · have e1 : (j == y1) = true := by simp [h1]
          have st := Lib.hid (out_to hx hv h0 h1)
          clear hx hv h0 h1 h3
          generalize outOf xs fl j q = s0 at u1 u2 st ⊢
          go_wp2
          go_roundw
          case rel => exact ⟨q + 1, by omega, by go_num, by rw [st.out], by rw [World.cell?_alloc_lt _ _ _ hs]; exact d2, (by repeat (first | assumption | exact Below.refl _ _ | (refine Below.setCell ?_ (by first | omega | (simp; done) | (simp; omega)) _) | apply below_drewN | apply Below.drew | (refine Below.alloc ?_ (by first | omega | (simp; done) | (simp; omega)) _))), (by first | omega | (simp; done) | (simp; omega))⟩
          case measure => simp [intOf]; omega
        · have e1 : (j == y1) = false := by simp [h1]
          have st := Lib.hid (out_no hx h0 h1 (fl := fl))
          clear hx hv h0 h1 h3
          generalize outOf xs fl j q = s0 at u1 u2 st ⊢
          go_wp2
          go_roundw
          case rel => exact ⟨q + 1, by omega, by go_num, by rw [st.out], by rw [World.cell?_alloc_lt _ _ _ hs]; exact d2, (by repeat (first | assumption | exact Below.refl _ _ | (refine Below.setCell ?_ (by first | omega | (simp; done) | (simp; omega)) _) | apply below_drewN | apply Below.drew | (refine Below.alloc ?_ (by first | omega | (simp; done) | (simp; omega)) _))), (by first | omega | (simp; done) | (simp; omega))⟩
          case measure => simp [intOf]; omega
    · obtain rfl : q = n := by omega
      go_wp2
      go_ret
      exact ⟨ret_int (by rw [HLN.out]), hb⟩

set_option maxRecDepth 100000 in
set_option maxHeartbeats 1600000 in
theorem leadsFrom_t (J : Int) (A : Option Addr) (n k : Nat) (xs : List RDitch) (F : Option Addr) (c : Nat) (fl : List Int) (f : Int) (w : World) (hn : n ≤ 1048576) (hx : Rd_Ditch w w.heap.size A n xs) (ha : Rd w w.heap.size F n fl) (hok : NetOk J xs) (hst : start J f) (ok : Bool) (hk : ok = decide (leads J xs f fl)) :
    Calls Try.prog 47 #[.agg #[.int .i64 J, .slice A n k, .slice F n c], .int .i64 f] w fun e w' => e = .returned (.bool ok) ∧ Below w.heap.size w w' := by
  obtain ⟨Jn, rfl⟩ : ∃ q : Nat, J = (q : Int) := ⟨J.toNat, by have := hok.1; omega⟩
  have hj1 : 2 ≤ Jn := by have := hok.1; omega
  have hj2 : Jn ≤ 10 := by have := hok.1; omega
  have hf1 : 1 ≤ f := hst.1
  have hln := hx.len
  have HX := Lib.hid hx
  have HA := Lib.hid ha
  have HK := Lib.hid hok
  have HO := Lib.hid hk
  have HLN := Lib.hid hln
  clear hx ha hok hln hst hk
  go_enter Try.func47, Try.ntmps47
  go_wp2
  go_loopw [5, 6, 12] (fun _ _ i wr => ∃ q : Nat, q ≤ n ∧ i = .int .i64 (q : Int) ∧ wr.cell? ⟨w.heap.size, 0, none⟩ = some (.int .i64 (Jn : Int)) ∧ wr.cell? ⟨w.heap.size, 1, none⟩ = some (.slice A n k) ∧ wr.cell? ⟨w.heap.size, 2, none⟩ = some (.slice F n c) ∧ Below w.heap.size w wr ∧ w.heap.size < wr.heap.size ∧ Hid (fits xs fl q)) (fun _ _ i _ => n - (intOf i).toNat)
  case atStart => exact ⟨0, by omega, rfl, by simp, by simp, by simp, (by repeat (first | assumption | exact Below.refl _ _ | (refine Below.setCell ?_ (by first | omega | (simp; done) | (simp; omega)) _) | apply below_drewN | apply Below.drew | (refine Below.alloc ?_ (by first | omega | (simp; done) | (simp; omega)) _))), by simp, fun j hj => absurd hj (by omega)⟩
  case round =>
    obtain ⟨q, hq, rfl, d0, d1, d2, hb, hs, hr⟩ := hrel
    have hsz := hb.size
    by_cases hlt : q < n
    · obtain ⟨ab, o, rfl, hB, hc⟩ := (HX.out.below hb).at (by omega)
      obtain ⟨fb, fo, rfl, hfB, hfc⟩ := (HA.out.below hb).2 (by omega)
      have p := hc q hlt
      have pf := hfc q hlt
      clear hc hfc
      obtain ⟨x, hx⟩ := getZ xs q
      obtain ⟨v, hv⟩ : ∃ v, v = fl.getD q 0 := ⟨_, rfl⟩
      rw [← hx] at p
      rw [← hv] at pf
      have HE := Lib.hid hx
      have HV := Lib.hid hv
      clear hx hv
      obtain ⟨y0, y1, y2⟩ := x
      obtain ⟨p0, p1, p2⟩ := p
      simp only at p0 p1 p2
      have n0 : w.heap.size ≠ wr.heap.size := by omega
      have n1 : fb < wr.heap.size := by omega
      by_cases hfit : 0 ≤ v ∧ v ≤ y2
      · have hf1' : fits xs fl (q + 1) := fits_succ hr.out (by rw [← HV.out, ← HE.out]; exact hfit)
        have HF := Lib.hid hf1'
        clear hf1'
        go_wp2_with fail
        go_quiet ((go_at_call 38; first | exact Calls.quiet_of_same ((within_t _ _ _ _ (by omega)).mono fun _ _ h => ⟨h.1, h.2.symm⟩) | exact Calls.quiet_of_same ((within_f _ _ _ _ (by omega)).mono fun _ _ h => ⟨h.1, h.2.symm⟩)))
        go_wp2
        go_roundw
        case rel => exact ⟨q + 1, by omega, by go_num, (World.cell?_alloc_lt _ _ _ hs).trans d0, (World.cell?_alloc_lt _ _ _ hs).trans d1, (World.cell?_alloc_lt _ _ _ hs).trans d2, (by repeat (first | assumption | exact Below.refl _ _ | (refine Below.setCell ?_ (by first | omega | (simp; done) | (simp; omega)) _) | apply below_drewN | apply Below.drew | (refine Below.alloc ?_ (by first | omega | (simp; done) | (simp; omega)) _))), (by first | omega | (simp; done) | (simp; omega)), HF.out⟩
        case measure => simp [intOf]; omega
      · have hno : ok = false := by
          rw [HO.out]
          exact decide_eq_false (fun h => hfit (by
            have := h.1 q (by rw [HLN.out]; exact hlt)
            rw [← HV.out, ← HE.out] at this
            exact this))
        have HNO := Lib.hid hno
        have hfit' : v < 0 ∨ y2 < v := by omega
        clear hno hfit
        go_wp2_with fail
        go_quiet ((go_at_call 38; first | exact Calls.quiet_of_same ((within_t _ _ _ _ (by omega)).mono fun _ _ h => ⟨h.1, h.2.symm⟩) | exact Calls.quiet_of_same ((within_f _ _ _ _ (by omega)).mono fun _ _ h => ⟨h.1, h.2.symm⟩)))
        go_wp2
        go_ret
        exact ⟨ret_bool HNO.out.symm, (by repeat (first | assumption | exact Below.refl _ _ | (refine Below.setCell ?_ (by first | omega | (simp; done) | (simp; omega)) _) | apply below_drewN | apply Below.drew | (refine Below.alloc ?_ (by first | omega | (simp; done) | (simp; omega)) _)))⟩
    · obtain rfl : q = n := by omega
      have hfa : fits xs fl xs.length := by rw [HLN.out]; exact hr.out
      have HFA := Lib.hid hfa
      clear hfa
      go_wp2
      go_loopw [7, 30] (fun _ i wr => ∃ r : Nat, r ≤ Jn ∧ i = .int .i64 (r : Int) ∧ wr.cell? ⟨w.heap.size, 0, none⟩ = some (.int .i64 (Jn : Int)) ∧ wr.cell? ⟨w.heap.size, 1, none⟩ = some (.slice A q k) ∧ wr.cell? ⟨w.heap.size, 2, none⟩ = some (.slice F q c) ∧ Below w.heap.size w wr ∧ w.heap.size < wr.heap.size ∧ Hid (∀ j : Nat, j < r → 1 ≤ j → (j : Int) ≠ f → outOf xs fl (j : Int) xs.length = 0)) (fun _ i _ => Jn - (intOf i).toNat)
      case atStart => exact ⟨0, by omega, rfl, d0, d1, d2, hb, hs, fun j h1 h2 => absurd h1 (by omega)⟩
      case round =>
        clear d0 d1 d2 hb hs hsz
        obtain ⟨r, hr2, rfl, d0, d1, d2, hb, hs, hz⟩ := hrel
        have hsz := hb.size
        by_cases hlt2 : r < Jn
        · by_cases hrf : (r : Int) = f
          · have e1 : ((r : Int) != f) = false := by simp [hrf]
            have HR := Lib.hid hrf
            clear hrf
            go_wp2
            go_roundw
            case rel => exact ⟨r + 1, by omega, by go_num, d0, d1, d2, hb, hs, fun j h1 h2 h3 => by
              by_cases ej : j = r
              · exact absurd (by rw [ej, HR.out]) h3
              · exact hz.out j (by omega) h2 h3⟩
            case measure => simp [intOf]; omega
          · have e1 : ((r : Int) != f) = true := by simp [hrf]
            have HR := Lib.hid hrf
            clear hrf
            by_cases hr0 : r = 0
            · have e2 : ((r : Int) != 0) = false := by simp [hr0]
              have HR0 := Lib.hid hr0
              clear hr0
              go_wp2
              go_roundw
              case rel => exact ⟨r + 1, by omega, by go_num, d0, d1, d2, hb, hs, fun j h1 h2 h3 => by
                by_cases ej : j = r
                · have := HR0.out; omega
                · exact hz.out j (by omega) h2 h3⟩
              case measure => simp [intOf]; omega
            · have e2 : ((r : Int) != 0) = true := by simp [hr0]
              have HR0 := Lib.hid hr0
              clear hr0
              obtain ⟨v0, hv0⟩ : ∃ z, z = outOf xs fl (r : Int) xs.length := ⟨_, rfl⟩
              have V0 := Lib.hid hv0
              clear hv0
              by_cases hv : v0 = 0
              · have e3 : (v0 != 0) = false := by simp [hv]
                have HVV := Lib.hid hv
                clear hv
                go_wp2_with fail
                refine (sum_t _ _ _ _ xs _ _ fl _ _ hn ((HX.out.below hb).mono hsz) ((HA.out.below hb).mono hsz) HK.out HFA.out).mono ?_
                rintro e4 W1 ⟨rfl, b1⟩
                rw [← V0.out]
                have z0 : W1.cell? ⟨w.heap.size, 0, none⟩ = _ := (b1.cell (p := ⟨w.heap.size, 0, none⟩) hs).trans d0
                have z1 : W1.cell? ⟨w.heap.size, 1, none⟩ = _ := (b1.cell (p := ⟨w.heap.size, 1, none⟩) hs).trans d1
                have z2 : W1.cell? ⟨w.heap.size, 2, none⟩ = _ := (b1.cell (p := ⟨w.heap.size, 2, none⟩) hs).trans d2
                have k1 : Below w.heap.size w W1 := (by repeat (first | assumption | exact Below.refl _ _ | (refine Below.trans ?_ (b1.mono (by first | omega | (simp; done) | (simp; omega)))) | (refine Below.setCell ?_ (by first | omega | (simp; done) | (simp; omega)) _) | apply below_drewN | apply Below.drew | (refine Below.alloc ?_ (by first | omega | (simp; done) | (simp; omega)) _)))
                have s1 : w.heap.size < W1.heap.size := by have := b1.size; omega
                go_wp2
                go_roundw
                case rel => exact ⟨r + 1, by omega, by go_num, z0, z1, z2, k1, s1, fun j h1 h2 h3 => by
                  by_cases ej : j = r
                  · rw [ej, ← V0.out]; exact HVV.out
                  · exact hz.out j (by omega) h2 h3⟩
                case measure => simp [intOf]; omega
              · have e3 : (v0 != 0) = true := by simp [hv]
                have hno : ok = false := by
                  rw [HO.out]
                  exact decide_eq_false (fun h => hv (by
                    rw [V0.out]
                    exact h.2.1 r (by simpa using hlt2) (by have := HR0.out; omega) HR.out))
                have HNO := Lib.hid hno
                clear hv hno
                go_wp2_with fail
                refine (sum_t _ _ _ _ xs _ _ fl _ _ hn ((HX.out.below hb).mono hsz) ((HA.out.below hb).mono hsz) HK.out HFA.out).mono ?_
                rintro e4 W1 ⟨rfl, b1⟩
                rw [← V0.out]
                go_wp2
                go_ret
                exact ⟨ret_bool HNO.out.symm, (by repeat (first | assumption | exact Below.refl _ _ | (refine Below.trans ?_ (b1.mono (by first | omega | (simp; done) | (simp; omega)))) | (refine Below.trans ?_ (hb.mono (by first | omega | (simp; done) | (simp; omega)))) | (refine Below.setCell ?_ (by first | omega | (simp; done) | (simp; omega)) _) | apply below_drewN | apply Below.drew | (refine Below.alloc ?_ (by first | omega | (simp; done) | (simp; omega)) _)))⟩
        · obtain rfl : r = Jn := by omega
          obtain ⟨v0, hv0⟩ : ∃ z, z = outOf xs fl f xs.length := ⟨_, rfl⟩
          have V0 := Lib.hid hv0
          clear hv0
          go_wp2_with fail
          refine (sum_t _ _ _ _ xs _ _ fl _ _ hn ((HX.out.below hb).mono hsz) ((HA.out.below hb).mono hsz) HK.out HFA.out).mono ?_
          rintro e4 W1 ⟨rfl, b1⟩
          rw [← V0.out]
          go_wp2
          go_ret
          refine ⟨ret_bool ?_, (by repeat (first | assumption | exact Below.refl _ _ | (refine Below.trans ?_ (b1.mono (by first | omega | (simp; done) | (simp; omega)))) | (refine Below.trans ?_ (hb.mono (by first | omega | (simp; done) | (simp; omega)))) | (refine Below.setCell ?_ (by first | omega | (simp; done) | (simp; omega)) _) | apply below_drewN | apply Below.drew | (refine Below.alloc ?_ (by first | omega | (simp; done) | (simp; omega)) _)))⟩
          rw [HO.out]
          exact decide_eq_decide.2 ⟨fun h => ⟨HFA.out, fun j h1 h2 h3 => hz.out j (by simpa using h1) h2 h3, by rw [← V0.out]; exact h⟩, fun h => by have := h.2.2; rw [← V0.out] at this; exact this⟩

end Go.Proofs.Ytlibmlbefboolaa
