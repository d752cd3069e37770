import Derived.Test.YtfpfmfhhcgafcaaWatI
import Derived.Test.YtfpfmfhhcgafcaaWatS
namespace Go.Proofs.Ytfpfmfhhcgafcaa
open Go.RowKit

def r0_FirstOver (a0 : Int) (xa1 : List RWater) (a2 : Int) : Int := if (waList xa1.length xa1 ∧ volOk a0 ∧ volOk a2) ∧ overW a0 a2 xa1 xa1.length < xa1.length then ((overW a0 a2 xa1 xa1.length : Nat) : Int) else 0
def r1_FirstOver (a0 : Int) (xa1 : List RWater) (a2 : Int) : Int := if waList xa1.length xa1 ∧ volOk a0 ∧ volOk a2 then (if overW a0 a2 xa1 xa1.length < xa1.length then 0 else 3) else wcode xa1.length xa1 (volOk a0 ∧ volOk a2)
theorem net_any3 {x0 x1 x2 x3 x4 : Int} (h : waR ⟨x0, x1, x2, x3, x4⟩) : -10000000000 ≤ x0 ∧ x0 ≤ 10000000000 ∧ -10000000000 ≤ x1 ∧ x1 ≤ 10000000000 ∧ -10000000000 ≤ x2 ∧ x2 ≤ 10000000000 ∧ -10000000000 ≤ x3 ∧ x3 ≤ 10000000000 ∧ -10000000000 ≤ x4 ∧ x4 ≤ 10000000000 := by
  obtain ⟨h0, h1, h2, h3, h4⟩ := h
  simp only at h0 h1 h2 h3 h4
  omega

set_option maxHeartbeats 1600000 in
theorem specC_FirstOver (a0 : Int) (a1 : Option Addr) (la1 ca1 : Nat) (xa1 : List RWater) (a2 : Int) (w : World) (ha0 : (Lit.int .i64 a0).wf = true) (ha1 : la1 ≤ 1048576) (ra1 : Rd_Water w w.heap.size a1 la1 xa1) (fa1 : Wf_Water xa1) (ha2 : (Lit.int .i64 a2).wf = true) :
    Calls Try.prog 34 #[.int .i64 a0, .slice a1 la1 ca1, .int .i64 a2] w fun e w' => e = .returned (.tuple #[.int .i64 (r0_FirstOver a0 xa1 a2), .int .i64 (r1_FirstOver a0 xa1 a2)]) ∧ Below w.heap.size w w' := by
  have hln := ra1.len
  have RA := Lib.hid ra1
  clear ra1
  by_cases h : waList la1 xa1 ∧ volOk a0 ∧ volOk a2
  · have e0 : r0_FirstOver a0 xa1 a2 = if overW a0 a2 xa1 la1 < la1 then ((overW a0 a2 xa1 la1 : Nat) : Int) else 0 := by
      unfold r0_FirstOver; rw [hln]
      by_cases g : overW a0 a2 xa1 la1 < la1
      · rw [if_pos ⟨h, g⟩, if_pos g]
      · rw [if_neg (fun x => g x.2), if_neg g]
    have e1 : r1_FirstOver a0 xa1 a2 = if overW a0 a2 xa1 la1 < la1 then 0 else 3 := by unfold r1_FirstOver; rw [hln, if_pos h]
    have HB := Lib.hid (volW_bd h.1.1 a0)
    have HV := Lib.hid h.1.1
    have h100 := h.1.2
    have HC := Lib.hid (wcode_ok (P := volOk a0 ∧ volOk a2) h.1 h.2)
    obtain ⟨⟨v1, v2⟩, v3, v4⟩ := h.2
    generalize r0_FirstOver a0 xa1 a2 = R0 at *
    generalize r1_FirstOver a0 xa1 a2 = R1 at *
    obtain ⟨s0, hs0⟩ : ∃ s0, s0 = a0 := ⟨_, rfl⟩
    rw [← hs0] at e0 e1 HB
    have E0 := Lib.hid e0
    have E1 := Lib.hid e1
    clear e0 e1 h
    go_enter Try.func34, Try.ntmps34
    go_wp2_with (first | (go_at_call 58; refine (l13Most_t a0 _ _ _ xa1 a2 _ ha1 ((RA.out.below (by repeat (first | assumption | exact Below.refl _ _ | (refine Below.setCell ?_ (by first | omega | (simp; done) | (simp; omega)) _) | apply below_drewN | apply Below.drew | (refine Below.alloc ?_ (by first | omega | (simp; done) | (simp; omega)) _)))).mono (by first | omega | (simp; done) | (simp; omega))) 0 HC.out).mono ?_; rintro e1 w1 ⟨rfl, rfl⟩))
    go_loopw [0, 9] (fun s i wr => ∃ q : Nat, q ≤ la1 ∧ i = .int .i64 (q : Int) ∧ s = .int .i64 (volW s0 xa1 q) ∧ Below w.heap.size w wr ∧ Hid (∀ j, j < q → volW s0 xa1 (j + 1) ≤ a2)) (fun _ i _ => la1 - (intOf i).toNat)
    case atStart => exact ⟨0, by omega, rfl, by rw [hs0]; rfl, (by repeat (first | assumption | exact Below.refl _ _ | (refine Below.setCell ?_ (by first | omega | (simp; done) | (simp; omega)) _) | apply below_drewN | apply Below.drew | (refine Below.alloc ?_ (by first | omega | (simp; done) | (simp; omega)) _))), fun j hj => absurd hj (by omega)⟩
    case round =>
      obtain ⟨q, hq, rfl, rfl, hb, hpos⟩ := hrel
      have hzb := hb.size
      by_cases hlt : q < la1
      · obtain ⟨b, o, rfl, hbB, hc⟩ := RA.out.at (by omega)
        have p := hc q hlt
        clear hc
        have hw := HV.out q hlt
        have hbd := HB.out (q + 1) (by omega)
        have HF := Lib.hid (show volW s0 xa1 (q + 1) = volW s0 xa1 q + netW (xa1.getD q zWater) from rfl)
        obtain ⟨x, hx⟩ := getZW xa1 q
        rw [← hx] at p hw HF
        clear hx
        obtain ⟨x0, x1, x2, x3, x4⟩ := x
        have HP := Lib.hid (p.below hb hbB)
        have HW := Lib.hid (net_any3 hw)
        obtain ⟨m, hm⟩ : ∃ m, m = netW ⟨x0, x1, x2, x3, x4⟩ := ⟨_, rfl⟩
        have HM := Lib.hid hm
        rw [← hm] at HF
        clear hm hw p
        obtain ⟨y, hy⟩ : ∃ y, y = volW s0 xa1 q := ⟨_, rfl⟩
        rw [← hy] at HF ⊢
        have f0 := IntWalk.i64_in (y + m) (by rw [← HF.out]; push_cast at hbd; omega)
        obtain ⟨z, hzz⟩ : ∃ z, z = y + m := ⟨_, rfl⟩
        have HZ := Lib.hid (show volW s0 xa1 (q + 1) = z by rw [hzz]; exact HF.out)
        have f1 : IntKind.i64.wrap (y + m) = z := f0.trans hzz.symm
        clear hbd hy HF hzz f0
        by_cases hneg : a2 < z
        · have hE := overW_some (n := la1) (fun j hj => Int.not_lt.2 (hpos.out j hj)) hlt (by rw [HZ.out]; exact hneg)
          go_wp2_with (first | (go_at_call 46; refine (netS_t _ _ x0 x1 x2 x3 x4 _ HP.out HW.out m HM.out).mono ?_; rintro e2 W2 ⟨rfl, b2⟩))
          have er0 : R0 = (q : Int) := by rw [E0.out, hE, if_pos hlt]
          have er1 : R1 = 0 := by rw [E1.out, hE, if_pos hlt]
          subst er0 er1
          go_ret2
          exact ⟨rfl, hb.trans (b2.mono hzb)⟩
        · have hneg' : ¬ z > a2 := hneg
          go_wp2_with (first | (go_at_call 46; refine (netS_t _ _ x0 x1 x2 x3 x4 _ HP.out HW.out m HM.out).mono ?_; rintro e2 W2 ⟨rfl, b2⟩))
          go_roundw
          case rel => exact ⟨q + 1, by omega, by go_num, by rw [HZ.out], hb.trans (b2.mono hzb), fun j hj => by
            by_cases e : j = q
            · subst e; rw [HZ.out]; omega
            · exact hpos.out j (by omega)⟩
          case measure => simp [intOf]; omega
      · obtain rfl : q = la1 := by omega
        have hE := overW_none (fun j hj => Int.not_lt.2 (hpos.out j hj))
        have er0 : R0 = 0 := by rw [E0.out, hE, if_neg (by omega)]
        have er1 : R1 = 3 := by rw [E1.out, hE, if_neg (by omega)]
        subst er0 er1
        go_wp2
        go_ret2
        exact ⟨rfl, hb⟩
  · have e0 : r0_FirstOver a0 xa1 a2 = 0 := by unfold r0_FirstOver; rw [hln, if_neg (fun g => h g.1)]
    have e1 : r1_FirstOver a0 xa1 a2 = wcode la1 xa1 (volOk a0 ∧ volOk a2) := by unfold r1_FirstOver; rw [hln, if_neg h]
    rw [e0, e1]
    have e6 := wcode_ne (P := volOk a0 ∧ volOk a2) h
    obtain ⟨C, hC⟩ : ∃ C, wcode la1 xa1 (volOk a0 ∧ volOk a2) = C := ⟨_, rfl⟩
    have HC := Lib.hid hC
    rw [hC] at e6 ⊢
    clear e0 e1 h hC
    go_enter Try.func34, Try.ntmps34
    go_wp2_with (first | (go_at_call 58; refine (l13Most_t a0 _ _ _ xa1 a2 _ ha1 ((RA.out.below (by repeat (first | assumption | exact Below.refl _ _ | (refine Below.setCell ?_ (by first | omega | (simp; done) | (simp; omega)) _) | apply below_drewN | apply Below.drew | (refine Below.alloc ?_ (by first | omega | (simp; done) | (simp; omega)) _)))).mono (by first | omega | (simp; done) | (simp; omega))) C HC.out).mono ?_; rintro e1 w1 ⟨rfl, rfl⟩))
    go_ret2
    exact ⟨rfl, Below.refl _ _⟩

theorem ovCl_t (x m : Int) (B : Nat) (w : World) (hB : w.cell? ⟨B, 0, none⟩ = some (.int .i64 m)) (v : Bool) (hv : v = decide (m < x)) : Calls Try.prog 60 #[.int .i64 x, .pointer (some ⟨B, 0, none⟩)] w fun e w' => e = .returned (.bool v) ∧ w = w' := by
  by_cases h : m < x
  · obtain rfl : v = true := by rw [hv]; exact decide_eq_true h
    clear hv
    go_enter Try.func60, Try.ntmps60
    go_wp2
    go_ret
    exact ⟨rfl, rfl⟩
  · obtain rfl : v = false := by rw [hv]; exact decide_eq_false h
    have h' : ¬ x > m := h
    clear hv
    go_enter Try.func60, Try.ntmps60
    go_wp2
    go_ret
    exact ⟨rfl, rfl⟩

set_option maxHeartbeats 800000 in
theorem ovIx_t (m s : Int) (B : Nat) (A : Option Addr) (n c : Nat) (L : List Int) (xs : List RWater) (w : World) (hn : n ≤ 1048576) (ha : Rd w w.heap.size A n L) (hB : w.cell? ⟨B, 0, none⟩ = some (.int .i64 m)) (hL : L = rowW (fun k => volW s xs (k + 1)) n) (R : Int) (hR : R = if overW s m xs n < n then ((overW s m xs n : Nat) : Int) else -1) :
    Calls Try.prog 59 #[.slice A n c, .func (.func 60) #[] #[.pointer (some ⟨B, 0, none⟩)]] w fun e w' => e = .returned (.int .i64 R) ∧ w = w' := by
  have HA := Lib.hid ha.2
  have HL := Lib.hid hL
  have HR := Lib.hid hR
  have HC := Lib.hid hB
  clear ha hL hR hB
  go_enter Try.func59, Try.ntmps59
  go_wp2
  go_loop [5, 8] (fun _ i => ∃ k : Nat, k ≤ n ∧ i = .int .i64 (k : Int) ∧ Hid (∀ j, j < k → volW s xs (j + 1) ≤ m)) (fun _ i => n - (intOf i).toNat)
  case atStart => exact ⟨0, by omega, rfl, fun j hj => absurd hj (by omega)⟩
  case round =>
    obtain ⟨k, hk, rfl, hr⟩ := hrel
    by_cases hlt : k < n
    · obtain ⟨ab, o, rfl, hbB, hc⟩ := HA.out (by omega)
      have c1 := hc k hlt
      clear hc
      rw [HL.out, rowW_at _ _ _ hlt] at c1
      obtain ⟨x, hx⟩ : ∃ x, x = volW s xs (k + 1) := ⟨_, rfl⟩
      rw [← hx] at c1
      have HX := Lib.hid hx
      clear hx
      by_cases hg : m < x
      · have HG := Lib.hid (show true = decide (m < x) from (decide_eq_true hg).symm)
        have HE := Lib.hid (overW_some (n := n) (fun j hj => Int.not_lt.2 (hr.out j hj)) hlt (by rw [← HX.out]; exact hg))
        clear hg
        go_wp2_with (go_at_call 60; refine (ovCl_t _ _ _ _ HC.out true HG.out).mono ?_; rintro e w' ⟨rfl, rfl⟩)
        go_ret
        exact ⟨ret_int (by rw [HR.out, HE.out, if_pos hlt]), rfl⟩
      · have HG := Lib.hid (show false = decide (m < x) from (decide_eq_false hg).symm)
        have HN := Lib.hid hg
        clear hg
        go_wp2_with (go_at_call 60; refine (ovCl_t _ _ _ _ HC.out false HG.out).mono ?_; rintro e w' ⟨rfl, rfl⟩)
        go_round
        case rel => exact ⟨k + 1, by omega, by go_num, fun j hj => by
          by_cases e : j = k
          · subst e; rw [← HX.out]; have := HN.out; omega
          · exact hr.out j (by omega)⟩
        case measure => simp [intOf]; omega
    · obtain rfl : k = n := by omega
      have HE := Lib.hid (overW_none (fun j hj => Int.not_lt.2 (hr.out j hj)))
      go_wp2
      go_ret
      exact ⟨ret_int (by rw [HR.out, HE.out, if_neg (by omega)]), rfl⟩

set_option maxHeartbeats 1600000 in
theorem implC_FirstOver (a0 : Int) (a1 : Option Addr) (la1 ca1 : Nat) (xa1 : List RWater) (a2 : Int) (w : World) (ha0 : (Lit.int .i64 a0).wf = true) (ha1 : la1 ≤ 1048576) (ra1 : Rd_Water w w.heap.size a1 la1 xa1) (fa1 : Wf_Water xa1) (ha2 : (Lit.int .i64 a2).wf = true) :
    Calls Try.prog 35 #[.int .i64 a0, .slice a1 la1 ca1, .int .i64 a2] w fun e w' => e = .returned (.tuple #[.int .i64 (r0_FirstOver a0 xa1 a2), .int .i64 (r1_FirstOver a0 xa1 a2)]) ∧ Below w.heap.size w w' := by
  have hln := ra1.len
  have RA := Lib.hid ra1
  clear ra1
  have hmf : ∀ (fn : Fn) (first cap : Array Value) (w : World), (Instr.makeFunc fn first cap).run Try.prog w = .ok (.func fn first cap) w := fun _ _ _ _ => rfl
  by_cases h : waList la1 xa1 ∧ volOk a0 ∧ volOk a2
  · have e0 : r0_FirstOver a0 xa1 a2 = if overW a0 a2 xa1 la1 < la1 then ((overW a0 a2 xa1 la1 : Nat) : Int) else 0 := by
      unfold r0_FirstOver; rw [hln]
      by_cases g : overW a0 a2 xa1 la1 < la1
      · rw [if_pos ⟨h, g⟩, if_pos g]
      · rw [if_neg (fun x => g x.2), if_neg g]
    have e1 : r1_FirstOver a0 xa1 a2 = if overW a0 a2 xa1 la1 < la1 then 0 else 3 := by unfold r1_FirstOver; rw [hln, if_pos h]
    rw [e0, e1]
    have HV := Lib.hid h.1
    have HS := Lib.hid h.2.1
    have h100 := h.1.2
    have HC := Lib.hid (wcode_ok (P := volOk a0 ∧ volOk a2) h.1 h.2)
    have HT2 := Lib.hid (show true = decide (volOk a0 ∧ volOk a2) from (decide_eq_true h.2).symm)
    obtain ⟨L, hL⟩ : ∃ L, L = rowW (fun k => volW a0 xa1 (k + 1)) la1 := ⟨_, rfl⟩
    have HLL := Lib.hid hL
    obtain ⟨R, hR⟩ : ∃ R : Int, R = if overW a0 a2 xa1 la1 < la1 then ((overW a0 a2 xa1 la1 : Nat) : Int) else -1 := ⟨_, rfl⟩
    have HR := Lib.hid hR
    obtain ⟨q, hq⟩ : ∃ q, q = overW a0 a2 xa1 la1 := ⟨_, rfl⟩
    rw [← hq] at hR ⊢
    clear e0 e1 h hL hq
    by_cases g : q < la1
    · rw [if_pos g] at hR
      rw [if_pos g, if_pos g]
      have hRn : ¬ R < 0 := by omega
      have HQ := Lib.hid hR
      clear hR g
      go_enter Try.func35, Try.ntmps35
      go_wp2_with (first | (go_at_call 53; refine (areVol_two _ a0 a2 _ (by first | omega | (simp; done) | (simp; omega)) (by first | (simp; done) | go_simp) (by first | (simp; done) | go_simp) true HT2.out).mono ?_; rintro e0 W0 ⟨rfl, b0⟩; have d0 : Below w.heap.size w W0 := (by repeat (first | assumption | exact Below.refl _ _ | (refine Below.trans ?_ (b0.mono (by first | omega | (simp; done) | (simp; omega)))) | (refine Below.setCell ?_ (by first | omega | (simp; done) | (simp; omega)) _) | apply below_drewN | apply Below.drew | (refine Below.alloc ?_ (by first | omega | (simp; done) | (simp; omega)) _))); have bx0 : W0.cell? ⟨w.heap.size, 0, none⟩ = some (.int .i64 a2) := (b0.cell (p := ⟨w.heap.size, 0, none⟩) (by first | omega | (simp; done) | (simp; omega))).trans (by first | (simp; done) | go_simp); have hq0 : w.heap.size < W0.heap.size := (by have := b0.size; simp at this; omega)) | (go_at_call 50; refine (runCode_t _ _ _ xa1 true (volOk a0 ∧ volOk a2) _ ha1 ((RA.out.below d0).mono d0.size) HT2.out 0 HC.out).mono ?_; rintro e1 W1 ⟨rfl, b1⟩; have d1 : Below w.heap.size w W1 := d0.trans (b1.mono d0.size); have bx1 := (b1.cell (p := ⟨w.heap.size, 0, none⟩) (by first | omega | (simp; done) | (simp; omega))).trans bx0; have hq1 : w.heap.size < W1.heap.size := (by have := b1.size; omega)) | (go_at_call 54; refine (volsI_t a0 _ _ _ xa1 _ ((RA.out.below d1).mono d1.size) HV.out HS.out L HLL.out).mono ?_; rintro e2 W2 ⟨B, d, rfl, b2, hw⟩; have HRD := Lib.hid hw.rd; clear hw; have d2 : Below w.heap.size w W2 := d1.trans (b2.mono d1.size); have bx2 := (b2.cell (p := ⟨w.heap.size, 0, none⟩) (by first | omega | (simp; done) | (simp; omega))).trans bx1) | (go_at_call 59; refine (ovIx_t a2 a0 _ _ _ _ L xa1 _ (by omega) HRD.out bx2 HLL.out R HR.out).mono ?_; rintro e3 w3 ⟨rfl, rfl⟩))
      go_ret2
      first
      | exact ⟨rfl, d2⟩
      | exact ⟨by rw [HQ.out]; rfl, d2⟩
    · rw [if_neg g] at hR
      rw [if_neg g, if_neg g]
      have hRn : R < 0 := by omega
      clear hR g
      go_enter Try.func35, Try.ntmps35
      go_wp2_with (first | (go_at_call 53; refine (areVol_two _ a0 a2 _ (by first | omega | (simp; done) | (simp; omega)) (by first | (simp; done) | go_simp) (by first | (simp; done) | go_simp) true HT2.out).mono ?_; rintro e0 W0 ⟨rfl, b0⟩; have d0 : Below w.heap.size w W0 := (by repeat (first | assumption | exact Below.refl _ _ | (refine Below.trans ?_ (b0.mono (by first | omega | (simp; done) | (simp; omega)))) | (refine Below.setCell ?_ (by first | omega | (simp; done) | (simp; omega)) _) | apply below_drewN | apply Below.drew | (refine Below.alloc ?_ (by first | omega | (simp; done) | (simp; omega)) _))); have bx0 : W0.cell? ⟨w.heap.size, 0, none⟩ = some (.int .i64 a2) := (b0.cell (p := ⟨w.heap.size, 0, none⟩) (by first | omega | (simp; done) | (simp; omega))).trans (by first | (simp; done) | go_simp); have hq0 : w.heap.size < W0.heap.size := (by have := b0.size; simp at this; omega)) | (go_at_call 50; refine (runCode_t _ _ _ xa1 true (volOk a0 ∧ volOk a2) _ ha1 ((RA.out.below d0).mono d0.size) HT2.out 0 HC.out).mono ?_; rintro e1 W1 ⟨rfl, b1⟩; have d1 : Below w.heap.size w W1 := d0.trans (b1.mono d0.size); have bx1 := (b1.cell (p := ⟨w.heap.size, 0, none⟩) (by first | omega | (simp; done) | (simp; omega))).trans bx0; have hq1 : w.heap.size < W1.heap.size := (by have := b1.size; omega)) | (go_at_call 54; refine (volsI_t a0 _ _ _ xa1 _ ((RA.out.below d1).mono d1.size) HV.out HS.out L HLL.out).mono ?_; rintro e2 W2 ⟨B, d, rfl, b2, hw⟩; have HRD := Lib.hid hw.rd; clear hw; have d2 : Below w.heap.size w W2 := d1.trans (b2.mono d1.size); have bx2 := (b2.cell (p := ⟨w.heap.size, 0, none⟩) (by first | omega | (simp; done) | (simp; omega))).trans bx1) | (go_at_call 59; refine (ovIx_t a2 a0 _ _ _ _ L xa1 _ (by omega) HRD.out bx2 HLL.out R HR.out).mono ?_; rintro e3 w3 ⟨rfl, rfl⟩))
      go_ret2
      exact ⟨rfl, d2⟩
  · have e0 : r0_FirstOver a0 xa1 a2 = 0 := by unfold r0_FirstOver; rw [hln, if_neg (fun g => h g.1)]
    have e1 : r1_FirstOver a0 xa1 a2 = wcode la1 xa1 (volOk a0 ∧ volOk a2) := by unfold r1_FirstOver; rw [hln, if_neg h]
    rw [e0, e1]
    have e6 := wcode_ne (P := volOk a0 ∧ volOk a2) h
    obtain ⟨C, hC⟩ : ∃ C, wcode la1 xa1 (volOk a0 ∧ volOk a2) = C := ⟨_, rfl⟩
    have HC := Lib.hid hC
    rw [hC] at e6 ⊢
    obtain ⟨v, hv⟩ : ∃ v, v = decide (volOk a0 ∧ volOk a2) := ⟨_, rfl⟩
    have HT2 := Lib.hid hv
    clear e0 e1 h hC hv
    go_enter Try.func35, Try.ntmps35
    go_wp2_with (first | (go_at_call 53; refine (areVol_two _ a0 a2 _ (by first | omega | (simp; done) | (simp; omega)) (by first | (simp; done) | go_simp) (by first | (simp; done) | go_simp) v HT2.out).mono ?_; rintro e0 W0 ⟨rfl, b0⟩; have d0 : Below w.heap.size w W0 := (by repeat (first | assumption | exact Below.refl _ _ | (refine Below.trans ?_ (b0.mono (by first | omega | (simp; done) | (simp; omega)))) | (refine Below.setCell ?_ (by first | omega | (simp; done) | (simp; omega)) _) | apply below_drewN | apply Below.drew | (refine Below.alloc ?_ (by first | omega | (simp; done) | (simp; omega)) _))); have bx0 : W0.cell? ⟨w.heap.size, 0, none⟩ = some (.int .i64 a2) := (b0.cell (p := ⟨w.heap.size, 0, none⟩) (by first | omega | (simp; done) | (simp; omega))).trans (by first | (simp; done) | go_simp); have hq0 : w.heap.size < W0.heap.size := (by have := b0.size; simp at this; omega)) | (go_at_call 50; refine (runCode_t _ _ _ xa1 v (volOk a0 ∧ volOk a2) _ ha1 ((RA.out.below d0).mono d0.size) HT2.out C HC.out).mono ?_; rintro e1 W1 ⟨rfl, b1⟩; have d1 : Below w.heap.size w W1 := d0.trans (b1.mono d0.size); have bx1 := (b1.cell (p := ⟨w.heap.size, 0, none⟩) (by first | omega | (simp; done) | (simp; omega))).trans bx0; have hq1 : w.heap.size < W1.heap.size := (by have := b1.size; omega)))
    go_ret2
    exact ⟨rfl, d1⟩

end Go.Proofs.Ytfpfmfhhcgafcaa
