import Derived.Test.YtfpfmfhhcgafcaaWatI
import Derived.Test.YtfpfmfhhcgafcaaWatS
namespace Go.Proofs.Ytfpfmfhhcgafcaa
open Go.RowKit

def posW (s : Int) (xs : List RWater) (n : Nat) : Prop := ∀ j, j < n → 0 ≤ volW s xs (j + 1)
instance (s : Int) (xs : List RWater) (n : Nat) : Decidable (posW s xs n) := by unfold posW; exact inferInstance
def r0_RunBalance (a0 : Int) (xa1 : List RWater) : List Int := if (waList xa1.length xa1 ∧ volOk a0) ∧ posW a0 xa1 xa1.length then rowW (fun k => volW a0 xa1 (k + 1)) xa1.length else []
def r1_RunBalance (a0 : Int) (xa1 : List RWater) : Int := if waList xa1.length xa1 ∧ volOk a0 then (if posW a0 xa1 xa1.length then 0 else 6) else wcode xa1.length xa1 (volOk a0)
theorem len_r0_RunBalance (a0 : Int) (xa1 : List RWater) : (r0_RunBalance a0 xa1).length ≤ 1048576 := by
  unfold r0_RunBalance
  split
  · rename_i h
    have := h.1.1.2
    rw [rowW_len]
    omega
  · simp
theorem volW_step (s : Int) (xs : List RWater) (k : Nat) : volW s xs (k + 1) = volW s xs k + netW (xs.getD k zWater) := rfl
theorem net_any {x0 x1 x2 x3 x4 : Int} (h : waR ⟨x0, x1, x2, x3, x4⟩) : -10000000000 ≤ x0 ∧ x0 ≤ 10000000000 ∧ -10000000000 ≤ x1 ∧ x1 ≤ 10000000000 ∧ -10000000000 ≤ x2 ∧ x2 ≤ 10000000000 ∧ -10000000000 ≤ x3 ∧ x3 ≤ 10000000000 ∧ -10000000000 ≤ x4 ∧ x4 ≤ 10000000000 := by
  obtain ⟨h0, h1, h2, h3, h4⟩ := h
  simp only at h0 h1 h2 h3 h4
  omega

set_option maxHeartbeats 3200000 in
theorem specC_RunBalance (a0 : Int) (a1 : Option Addr) (la1 ca1 : Nat) (xa1 : List RWater) (w : World) (ha0 : (Lit.int .i64 a0).wf = true) (ha1 : la1 ≤ 1048576) (ra1 : Rd_Water w w.heap.size a1 la1 xa1) (fa1 : Wf_Water xa1) :
    Calls Try.prog 26 #[.int .i64 a0, .slice a1 la1 ca1] w fun e w' => ∃ B0 dB0, e = .returned (.tuple #[.slice B0 (r0_RunBalance a0 xa1).length dB0, .int .i64 (r1_RunBalance a0 xa1)]) ∧ Below w.heap.size w w' ∧ Wr w' w.heap.size B0 (r0_RunBalance a0 xa1).length (r0_RunBalance a0 xa1) := by
  have hln := ra1.len
  have RA := Lib.hid ra1
  clear ra1
  by_cases h : waList la1 xa1 ∧ volOk a0
  · have e1 : r1_RunBalance a0 xa1 = if posW a0 xa1 la1 then 0 else 6 := by unfold r1_RunBalance; rw [hln, if_pos h]
    have e0 : r0_RunBalance a0 xa1 = if posW a0 xa1 la1 then rowW (fun k => volW a0 xa1 (k + 1)) la1 else [] := by
      unfold r0_RunBalance; rw [hln]
      by_cases g : posW a0 xa1 la1
      · rw [if_pos ⟨h, g⟩, if_pos g]
      · rw [if_neg (fun x => g x.2), if_neg g]
    have HB := Lib.hid (volW_bd h.1.1 a0)
    have HV := Lib.hid h.1.1
    have h100 := h.1.2
    have HC := Lib.hid (wcode_ok (P := volOk a0) h.1 h.2)
    obtain ⟨v1, v2⟩ := h.2
    generalize r0_RunBalance a0 xa1 = R0 at *
    generalize r1_RunBalance a0 xa1 = R1 at *
    obtain ⟨s0, hs0⟩ : ∃ s0, s0 = a0 := ⟨_, rfl⟩
    rw [← hs0] at e0 e1 HB
    have E0 := Lib.hid e0
    have E1 := Lib.hid e1
    clear e0 e1 h
    go_enter Try.func26, Try.ntmps26
    go_wp2_with (first | (go_at_call 52; refine (l13Start_t a0 _ _ _ xa1 _ ha1 ((RA.out.below (by repeat (first | assumption | exact Below.refl _ _ | (refine Below.setCell ?_ (by first | omega | (simp; done) | (simp; omega)) _) | apply below_drewN | apply Below.drew | (refine Below.alloc ?_ (by first | omega | (simp; done) | (simp; omega)) _)))).mono (by first | omega | (simp; done) | (simp; omega))) 0 HC.out).mono ?_; rintro e1 w1 ⟨rfl, rfl⟩))
    go_loopw [0, 7, 8] (fun s v i wr => ∃ q : Nat, q ≤ la1 ∧ i = .int .i64 (q : Int) ∧ s = .int .i64 (volW s0 xa1 q) ∧ Below w.heap.size w wr ∧ w.heap.size ≤ wr.heap.size ∧ wr.ownsRow w.heap.size 2 1 v q ((rowW (fun k => volW s0 xa1 (k + 1)) q).map (Value.int .i64)) ∧ Hid (∀ j, j < q → 0 ≤ volW s0 xa1 (j + 1))) (fun _ _ i _ => la1 - (intOf i).toNat)
    case atStart => exact ⟨0, by omega, rfl, by rw [hs0]; rfl, (by repeat (first | assumption | exact Below.refl _ _ | (refine Below.setCell ?_ (by first | omega | (simp; done) | (simp; omega)) _) | apply below_drewN | apply Below.drew | (refine Below.alloc ?_ (by first | omega | (simp; done) | (simp; omega)) _))), by simp, owns_made rfl (Nat.le_refl _), fun j hj => absurd hj (by omega)⟩
    case round =>
      obtain ⟨q, hq, rfl, rfl, hb, hz, hown, hpos⟩ := hrel
      by_cases hlt : q < la1
      · obtain ⟨b, o, rfl, hbB, hc⟩ := RA.out.at (by omega)
        have p := hc q hlt
        clear hc
        have hw := HV.out q hlt
        have hbd := HB.out (q + 1) (by omega)
        have HF := Lib.hid (volW_step s0 xa1 q)
        have HR := Lib.hid (rowW_succ (fun k => volW s0 xa1 (k + 1)) q)
        obtain ⟨x, hx⟩ := getZW xa1 q
        rw [← hx] at p hw HF
        clear hx
        obtain ⟨x0, x1, x2, x3, x4⟩ := x
        have HP := Lib.hid (p.below hb hbB)
        have HW := Lib.hid (net_any hw)
        obtain ⟨m, hm⟩ : ∃ m, m = netW ⟨x0, x1, x2, x3, x4⟩ := ⟨_, rfl⟩
        have HM := Lib.hid hm
        rw [← hm] at HF
        clear hm hw p
        obtain ⟨y, hy⟩ : ∃ y, y = volW s0 xa1 q := ⟨_, rfl⟩
        rw [← hy] at HF ⊢
        have f0 := IntWalk.i64_in (y + m) (by rw [← HF.out]; push_cast at hbd; omega)
        obtain ⟨z, hzz⟩ : ∃ z, z = y + m := ⟨_, rfl⟩
        have HZ := Lib.hid (show volW s0 xa1 (q + 1) = z by rw [hzz]; exact HF.out)
        have f1 : IntKind.i64.wrap (y + m) = z := f0.trans hzz.symm
        clear f0
        clear hbd hy HF hzz
        by_cases hneg : z < 0
        · have hE := Lib.hid (show ¬ posW s0 xa1 la1 from fun g => by have := g q hlt; rw [HZ.out] at this; omega)
          go_wp2_with (first | (go_at_call 46; refine (netS_t _ _ x0 x1 x2 x3 x4 _ HP.out HW.out m HM.out).mono ?_; rintro e2 W2 ⟨rfl, b2⟩))
          have er0 : R0 = [] := by rw [E0.out, if_neg hE.out]
          have er1 : R1 = 6 := by rw [E1.out, if_neg hE.out]
          subst er0 er1
          go_ret2
          exact ⟨none, 0, rfl, (by repeat (first | assumption | exact Below.refl _ _ | (refine Below.trans ?_ (b2.mono (by first | omega | (simp; done) | (simp; omega)))) | (refine Below.trans ?_ (hb.mono (by first | omega | (simp; done) | (simp; omega)))) | (refine Below.setCell ?_ (by first | omega | (simp; done) | (simp; omega)) _) | apply below_drewN | apply Below.drew | (refine Below.alloc ?_ (by first | omega | (simp; done) | (simp; omega)) _))), rfl, fun h => absurd h (by simp)⟩
        · go_wp2_with (first | (go_at_call 46; refine (netS_t _ _ x0 x1 x2 x3 x4 _ HP.out HW.out m HM.out).mono ?_; rintro e2 W2 ⟨rfl, b2⟩; have d2 : Below w.heap.size w W2 := (by repeat (first | assumption | exact Below.refl _ _ | (refine Below.trans ?_ (b2.mono (by first | omega | (simp; done) | (simp; omega)))) | (refine Below.trans ?_ (hb.mono (by first | omega | (simp; done) | (simp; omega)))) | (refine Below.setCell ?_ (by first | omega | (simp; done) | (simp; omega)) _) | apply below_drewN | apply Below.drew | (refine Below.alloc ?_ (by first | omega | (simp; done) | (simp; omega)) _))); have hown2 := owns_below hown b2; have hz2 := b2.size) | (at_builtin; refine wpl_app1 rfl _ _ rfl _ _ _ _ _ _ rfl (by exact hown2) rfl (by omega) (by omega) ?_; intro v1 w1 hown1 hb1 hz1))
          go_roundw
          case rel => exact ⟨q + 1, by omega, by go_num, by rw [HZ.out], d2.trans hb1, by omega, by rw [HR.out, HZ.out]; simpa using hown1, fun j hj => by
            by_cases e : j = q
            · subst e; rw [HZ.out]; omega
            · exact hpos.out j (by omega)⟩
          case measure => simp [intOf]; omega
      · obtain rfl : q = la1 := by omega
        have hE : posW s0 xa1 q := hpos.out
        have er0 : R0 = rowW (fun k => volW s0 xa1 (k + 1)) q := by rw [E0.out, if_pos hE]
        have er1 : R1 = 0 := by rw [E1.out, if_pos hE]
        subst er1
        go_wp2
        obtain ⟨B, d, rfl, hw⟩ := own_wr hown
        go_ret2
        rw [er0, rowW_len]
        exact ⟨B, d, rfl, hb, hw⟩
  · have e0 : r0_RunBalance a0 xa1 = [] := by unfold r0_RunBalance; rw [hln, if_neg (fun g => h g.1)]
    have e1 : r1_RunBalance a0 xa1 = wcode la1 xa1 (volOk a0) := by unfold r1_RunBalance; rw [hln, if_neg h]
    rw [e0, e1]
    have e6 := wcode_ne (P := volOk a0) h
    obtain ⟨C, hC⟩ : ∃ C, wcode la1 xa1 (volOk a0) = C := ⟨_, rfl⟩
    have HC := Lib.hid hC
    rw [hC] at e6 ⊢
    clear e0 e1 h hC
    go_enter Try.func26, Try.ntmps26
    go_wp2_with (first | (go_at_call 52; refine (l13Start_t a0 _ _ _ xa1 _ ha1 ((RA.out.below (by repeat (first | assumption | exact Below.refl _ _ | (refine Below.setCell ?_ (by first | omega | (simp; done) | (simp; omega)) _) | apply below_drewN | apply Below.drew | (refine Below.alloc ?_ (by first | omega | (simp; done) | (simp; omega)) _)))).mono (by first | omega | (simp; done) | (simp; omega))) C HC.out).mono ?_; rintro e1 w1 ⟨rfl, rfl⟩))
    go_ret2
    exact ⟨none, 0, rfl, Below.refl _ _, rfl, fun h => absurd h (by simp)⟩
theorem negCl_t (x : Int) (w : World) (v : Bool) (hv : v = decide (x < 0)) : Calls Try.prog 56 #[.int .i64 x] w fun e w' => e = .returned (.bool v) ∧ w = w' := by
  by_cases h : x < 0
  · obtain rfl : v = true := by rw [hv]; exact decide_eq_true h
    clear hv
    go_enter Try.func56, Try.ntmps56
    go_wp2
    go_ret
    exact ⟨rfl, rfl⟩
  · obtain rfl : v = false := by rw [hv]; exact decide_eq_false h
    clear hv
    go_enter Try.func56, Try.ntmps56
    go_wp2
    go_ret
    exact ⟨rfl, rfl⟩

set_option maxHeartbeats 800000 in
theorem negIx_t (A : Option Addr) (n c : Nat) (xs : List Int) (w : World) (hn : n ≤ 1048576) (ha : Rd w w.heap.size A n xs) (b : Bool) (hb : b = true ↔ ∃ j, j < n ∧ xs.getD j 0 < 0) :
    Calls Try.prog 59 #[.slice A n c, .func (.func 56) #[] #[]] w fun e w' => ∃ k : Int, e = .returned (.int .i64 k) ∧ w = w' ∧ decide (0 ≤ k) = b := by
  have HA := Lib.hid ha.2
  have HB := Lib.hid hb
  clear ha hb
  go_enter Try.func59, Try.ntmps59
  go_wp2
  go_loop [5, 8] (fun _ i => ∃ k : Nat, k ≤ n ∧ i = .int .i64 (k : Int) ∧ Hid (∀ j, j < k → 0 ≤ xs.getD j 0)) (fun _ i => n - (intOf i).toNat)
  case atStart => exact ⟨0, by omega, rfl, fun j hj => absurd hj (by omega)⟩
  case round =>
    obtain ⟨k, hk, rfl, hr⟩ := hrel
    by_cases hlt : k < n
    · obtain ⟨ab, o, rfl, hbB, hc⟩ := HA.out (by omega)
      have c1 := hc k hlt
      clear hc
      obtain ⟨x, hx⟩ : ∃ x, x = xs.getD k 0 := ⟨_, rfl⟩
      rw [← hx] at c1
      have HX := Lib.hid hx
      clear hx
      by_cases hg : x < 0
      · have HG := Lib.hid (show true = decide (x < 0) from (decide_eq_true hg).symm)
        have HF := Lib.hid (show b = true from HB.out.2 ⟨k, hlt, by rw [← HX.out]; exact hg⟩)
        clear hg
        go_wp2_with (go_at_call 56; refine (negCl_t _ _ true HG.out).mono ?_; rintro e w' ⟨rfl, rfl⟩)
        go_ret
        exact ⟨(k : Int), rfl, rfl, by rw [HF.out]; simp⟩
      · have HG := Lib.hid (show false = decide (x < 0) from (decide_eq_false hg).symm)
        go_wp2_with (go_at_call 56; refine (negCl_t _ _ false HG.out).mono ?_; rintro e w' ⟨rfl, rfl⟩)
        go_round
        case rel => exact ⟨k + 1, by omega, by go_num, fun j hj => by
          by_cases e : j = k
          · subst e; rw [← HX.out]; omega
          · exact hr.out j (by omega)⟩
        case measure => simp [intOf]; omega
    · obtain rfl : k = n := by omega
      have HT := Lib.hid (show b = false by
        cases hbb : b
        · rfl
        · obtain ⟨j, h1, h2⟩ := HB.out.1 hbb
          exact absurd h2 (by have := hr.out j h1; omega))
      go_wp2
      go_ret
      exact ⟨-1, rfl, rfl, by rw [HT.out]; simp⟩

theorem negHas_t (A : Option Addr) (n c : Nat) (xs : List Int) (w : World) (hn : n ≤ 1048576) (ha : Rd w w.heap.size A n xs) (b : Bool) (hb : b = true ↔ ∃ j, j < n ∧ xs.getD j 0 < 0) :
    Calls Try.prog 55 #[.slice A n c, .func (.func 56) #[] #[]] w fun e w' => e = .returned (.bool b) ∧ w = w' := by
  have HA := Lib.hid (negIx_t A n c xs w hn ha b hb)
  clear ha hb
  go_enter Try.func55, Try.ntmps55
  go_wp2_with (go_at_call 59; refine HA.out.mono ?_; rintro e1 w1 ⟨k, rfl, rfl, hk⟩; have HK := Lib.hid hk; clear hk)
  go_ret
  exact ⟨ret_bool HK.out, rfl⟩

set_option maxHeartbeats 1600000 in
theorem implC_RunBalance (a0 : Int) (a1 : Option Addr) (la1 ca1 : Nat) (xa1 : List RWater) (w : World) (ha0 : (Lit.int .i64 a0).wf = true) (ha1 : la1 ≤ 1048576) (ra1 : Rd_Water w w.heap.size a1 la1 xa1) (fa1 : Wf_Water xa1) :
    Calls Try.prog 27 #[.int .i64 a0, .slice a1 la1 ca1] w fun e w' => ∃ B0 dB0, e = .returned (.tuple #[.slice B0 (r0_RunBalance a0 xa1).length dB0, .int .i64 (r1_RunBalance a0 xa1)]) ∧ Below w.heap.size w w' ∧ Wr w' w.heap.size B0 (r0_RunBalance a0 xa1).length (r0_RunBalance a0 xa1) := by
  have hln := ra1.len
  have RA := Lib.hid ra1
  clear ra1
  have HVB := Lib.hid (show decide (volOk a0) = decide (volOk a0) from rfl)
  by_cases h : waList la1 xa1 ∧ volOk a0
  · have e1 : r1_RunBalance a0 xa1 = if posW a0 xa1 la1 then 0 else 6 := by unfold r1_RunBalance; rw [hln, if_pos h]
    have e0 : r0_RunBalance a0 xa1 = if posW a0 xa1 la1 then rowW (fun k => volW a0 xa1 (k + 1)) la1 else [] := by
      unfold r0_RunBalance; rw [hln]
      by_cases g : posW a0 xa1 la1
      · rw [if_pos ⟨h, g⟩, if_pos g]
      · rw [if_neg (fun x => g x.2), if_neg g]
    have HV := Lib.hid h.1
    have HS := Lib.hid h.2
    have HC := Lib.hid (wcode_ok (P := volOk a0) h.1 h.2)
    have HT := Lib.hid (show true = decide (volOk a0) from (decide_eq_true h.2).symm)
    obtain ⟨L, hL⟩ : ∃ L, L = rowW (fun k => volW a0 xa1 (k + 1)) la1 := ⟨_, rfl⟩
    have HLL := Lib.hid hL
    rw [← hL] at e0
    have HLN := Lib.hid (show L.length = la1 by rw [hL, rowW_len])
    have HBB := Lib.hid (show decide (¬ posW a0 xa1 la1) = true ↔ ∃ j, j < la1 ∧ L.getD j 0 < 0 by
      rw [decide_eq_true_iff]
      unfold posW
      constructor
      · intro g
        refine Classical.byContradiction fun hc => g fun j hj => ?_
        refine Int.not_lt.1 fun hl => hc ⟨j, hj, ?_⟩
        rw [hL, rowW_at _ _ _ hj]
        exact hl
      · rintro ⟨j, h1, h2⟩ g
        have := g j h1
        rw [hL, rowW_at _ _ _ h1] at h2
        omega)
    clear h hL
    by_cases g : posW a0 xa1 la1
    · rw [if_pos g] at e0 e1
      rw [e0, e1]
      have HBB2 := Lib.hid (show false = true ↔ ∃ j, j < la1 ∧ L.getD j 0 < 0 by have := HBB.out; rwa [decide_eq_false (fun x => x g)] at this)
      clear e0 e1 HBB
      go_enter Try.func27, Try.ntmps27
      go_wp2_with (first | (go_at_call 53; refine (areVol_one _ a0 _ (by first | omega | (simp; done) | (simp; omega)) (by first | (simp; done) | go_simp) true HT.out).mono ?_; rintro e0 W0 ⟨rfl, b0⟩; have d0 : Below w.heap.size w W0 := (by repeat (first | assumption | exact Below.refl _ _ | (refine Below.trans ?_ (b0.mono (by first | omega | (simp; done) | (simp; omega)))) | (refine Below.setCell ?_ (by first | omega | (simp; done) | (simp; omega)) _) | apply below_drewN | apply Below.drew | (refine Below.alloc ?_ (by first | omega | (simp; done) | (simp; omega)) _)))) | (go_at_call 50; refine (runCode_t _ _ _ xa1 true (volOk a0) _ ha1 ((RA.out.below d0).mono d0.size) HT.out 0 HC.out).mono ?_; rintro e1 W1 ⟨rfl, b1⟩; have d1 : Below w.heap.size w W1 := d0.trans (b1.mono d0.size)) | (go_at_call 54; refine (volsI_t a0 _ _ _ xa1 _ ((RA.out.below d1).mono d1.size) HV.out HS.out L HLL.out).mono ?_; rintro e2 W2 ⟨B, d, rfl, b2, hw⟩; have HWR := Lib.hid hw; have HRD := Lib.hid hw.rd; clear hw; have d2 : Below w.heap.size w W2 := d1.trans (b2.mono d1.size)) | (go_at_call 55; refine (negHas_t _ _ _ L _ (by omega) HRD.out false HBB2.out).mono ?_; rintro e3 w3 ⟨rfl, rfl⟩))
      go_ret2
      rw [HLN.out]
      exact ⟨B, d, rfl, d2, HWR.out.lower d1.size⟩
    · rw [if_neg g] at e0 e1
      rw [e0, e1]
      have HBB2 := Lib.hid (show true = true ↔ ∃ j, j < la1 ∧ L.getD j 0 < 0 by have := HBB.out; rwa [decide_eq_true g] at this)
      have HBB3 := Lib.hid (HBB2.out.1 rfl)
      clear e0 e1 HBB HBB2
      go_enter Try.func27, Try.ntmps27
      go_wp2_with (first | (go_at_call 53; refine (areVol_one _ a0 _ (by first | omega | (simp; done) | (simp; omega)) (by first | (simp; done) | go_simp) true HT.out).mono ?_; rintro e0 W0 ⟨rfl, b0⟩; have d0 : Below w.heap.size w W0 := (by repeat (first | assumption | exact Below.refl _ _ | (refine Below.trans ?_ (b0.mono (by first | omega | (simp; done) | (simp; omega)))) | (refine Below.setCell ?_ (by first | omega | (simp; done) | (simp; omega)) _) | apply below_drewN | apply Below.drew | (refine Below.alloc ?_ (by first | omega | (simp; done) | (simp; omega)) _)))) | (go_at_call 50; refine (runCode_t _ _ _ xa1 true (volOk a0) _ ha1 ((RA.out.below d0).mono d0.size) HT.out 0 HC.out).mono ?_; rintro e1 W1 ⟨rfl, b1⟩; have d1 : Below w.heap.size w W1 := d0.trans (b1.mono d0.size)) | (go_at_call 54; refine (volsI_t a0 _ _ _ xa1 _ ((RA.out.below d1).mono d1.size) HV.out HS.out L HLL.out).mono ?_; rintro e2 W2 ⟨B, d, rfl, b2, hw⟩; have HWR := Lib.hid hw; have HRD := Lib.hid hw.rd; clear hw; have d2 : Below w.heap.size w W2 := d1.trans (b2.mono d1.size)) | (go_at_call 55; refine (negHas_t _ _ _ L _ (by omega) HRD.out true ⟨fun _ => HBB3.out, fun _ => rfl⟩).mono ?_; rintro e3 w3 ⟨rfl, rfl⟩))
      go_ret2
      exact ⟨none, 0, rfl, d2, rfl, fun h => absurd h (by simp)⟩
  · have e0 : r0_RunBalance a0 xa1 = [] := by unfold r0_RunBalance; rw [hln, if_neg (fun g => h g.1)]
    have e1 : r1_RunBalance a0 xa1 = wcode la1 xa1 (volOk a0) := by unfold r1_RunBalance; rw [hln, if_neg h]
    rw [e0, e1]
    have e6 := wcode_ne (P := volOk a0) h
    obtain ⟨C, hC⟩ : ∃ C, wcode la1 xa1 (volOk a0) = C := ⟨_, rfl⟩
    have HC := Lib.hid hC
    rw [hC] at e6 ⊢
    obtain ⟨v, hv⟩ : ∃ v, v = decide (volOk a0) := ⟨_, rfl⟩
    have HT := Lib.hid hv
    clear e0 e1 h hC hv HVB
    go_enter Try.func27, Try.ntmps27
    go_wp2_with (first | (go_at_call 53; refine (areVol_one _ a0 _ (by first | omega | (simp; done) | (simp; omega)) (by first | (simp; done) | go_simp) v HT.out).mono ?_; rintro e0 W0 ⟨rfl, b0⟩; have d0 : Below w.heap.size w W0 := (by repeat (first | assumption | exact Below.refl _ _ | (refine Below.trans ?_ (b0.mono (by first | omega | (simp; done) | (simp; omega)))) | (refine Below.setCell ?_ (by first | omega | (simp; done) | (simp; omega)) _) | apply below_drewN | apply Below.drew | (refine Below.alloc ?_ (by first | omega | (simp; done) | (simp; omega)) _)))) | (go_at_call 50; refine (runCode_t _ _ _ xa1 v (volOk a0) _ ha1 ((RA.out.below d0).mono d0.size) HT.out C HC.out).mono ?_; rintro e1 W1 ⟨rfl, b1⟩; have d1 : Below w.heap.size w W1 := d0.trans (b1.mono d0.size)))
    go_ret2
    exact ⟨none, 0, rfl, d1, rfl, fun h => absurd h (by simp)⟩

end Go.Proofs.Ytfpfmfhhcgafcaa
