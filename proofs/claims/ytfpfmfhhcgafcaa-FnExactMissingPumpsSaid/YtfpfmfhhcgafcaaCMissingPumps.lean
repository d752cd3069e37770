import Derived.Test.YtfpfmfhhcgafcaaWatI
import Derived.Test.YtfpfmfhhcgafcaaWatS
namespace Go.Proofs.Ytfpfmfhhcgafcaa
open Go.RowKit

def r0_MissingPumps (a0 : Int) (xa1 : List RWater) (a2 : Int) : List Int := if waList xa1.length xa1 ∧ volOk a0 ∧ volOk a2 then rowW (misW a0 a2 xa1) xa1.length else []
def r1_MissingPumps (a0 : Int) (xa1 : List RWater) (a2 : Int) : Int := wcode xa1.length xa1 (volOk a0 ∧ volOk a2)
theorem len_r0_MissingPumps (a0 : Int) (xa1 : List RWater) (a2 : Int) : (r0_MissingPumps a0 xa1 a2).length ≤ 1048576 := by
  unfold r0_MissingPumps
  split
  · rename_i h
    have := h.1.2
    rw [rowW_len]
    omega
  · simp
theorem net_any4 {x0 x1 x2 x3 x4 : Int} (h : waR ⟨x0, x1, x2, x3, x4⟩) : -10000000000 ≤ x0 ∧ x0 ≤ 10000000000 ∧ -10000000000 ≤ x1 ∧ x1 ≤ 10000000000 ∧ -10000000000 ≤ x2 ∧ x2 ≤ 10000000000 ∧ -10000000000 ≤ x3 ∧ x3 ≤ 10000000000 ∧ -10000000000 ≤ x4 ∧ x4 ≤ 10000000000 := by
  obtain ⟨h0, h1, h2, h3, h4⟩ := h
  simp only at h0 h1 h2 h3 h4
  omega

theorem maxW_t (a b m : Int) (w : World) (hm : m = max a b) : Calls Try.prog 65 #[.int .i64 a, .int .i64 b] w fun e w' => e = .returned (.int .i64 m) ∧ w = w' := by
  subst hm
  by_cases h : b < a
  · go_enter Try.func65, Try.ntmps65
    go_wp2
    go_ret
    exact ⟨ret_int (by omega), rfl⟩
  · go_enter Try.func65, Try.ntmps65
    go_wp2
    go_ret
    exact ⟨ret_int (by omega), rfl⟩

set_option maxHeartbeats 1600000 in
theorem specC_MissingPumps (a0 : Int) (a1 : Option Addr) (la1 ca1 : Nat) (xa1 : List RWater) (a2 : Int) (w : World) (ha0 : (Lit.int .i64 a0).wf = true) (ha1 : la1 ≤ 1048576) (ra1 : Rd_Water w w.heap.size a1 la1 xa1) (fa1 : Wf_Water xa1) (ha2 : (Lit.int .i64 a2).wf = true) :
    Calls Try.prog 41 #[.int .i64 a0, .slice a1 la1 ca1, .int .i64 a2] w fun e w' => ∃ B0 dB0, e = .returned (.tuple #[.slice B0 (r0_MissingPumps a0 xa1 a2).length dB0, .int .i64 (r1_MissingPumps a0 xa1 a2)]) ∧ Below w.heap.size w w' ∧ Wr w' w.heap.size B0 (r0_MissingPumps a0 xa1 a2).length (r0_MissingPumps a0 xa1 a2) := by
  have hln := ra1.len
  have RA := Lib.hid ra1
  clear ra1
  by_cases h : waList la1 xa1 ∧ volOk a0 ∧ volOk a2
  · have e0 : r0_MissingPumps a0 xa1 a2 = rowW (misW a0 a2 xa1) la1 := by unfold r0_MissingPumps; rw [hln, if_pos h]
    have e1 : r1_MissingPumps a0 xa1 a2 = 0 := by unfold r1_MissingPumps; rw [hln]; exact wcode_ok h.1 h.2
    rw [e0, e1, rowW_len]
    have HB := Lib.hid (volW_bd h.1.1 a0)
    have HP := Lib.hid (pumW_bd h.1.1 h.2.1 h.2.2)
    have HV := Lib.hid h.1.1
    have h100 := h.1.2
    have HC := Lib.hid (wcode_ok (P := volOk a0 ∧ volOk a2) h.1 h.2)
    obtain ⟨⟨v1, v2⟩, v3, v4⟩ := h.2
    obtain ⟨s0, hs0⟩ : ∃ s0, s0 = a0 := ⟨_, rfl⟩
    have HS0 := Lib.hid hs0
    rw [← hs0] at HB HP
    rw [show misW a0 a2 xa1 = misW s0 a2 xa1 by rw [hs0]]
    clear e0 e1 h
    go_enter Try.func41, Try.ntmps41
    go_wp2_with (first | (go_at_call 58; refine (l13Most_t a0 _ _ _ xa1 a2 _ ha1 ((RA.out.below (by repeat (first | assumption | exact Below.refl _ _ | (refine Below.setCell ?_ (by first | omega | (simp; done) | (simp; omega)) _) | apply below_drewN | apply Below.drew | (refine Below.alloc ?_ (by first | omega | (simp; done) | (simp; omega)) _)))).mono (by first | omega | (simp; done) | (simp; omega))) 0 HC.out).mono ?_; rintro e1 w1 ⟨rfl, rfl⟩))
    go_loopw [0, 9, 10, 11] (fun s v i _ wr => ∃ q : Nat, q ≤ la1 ∧ i = .int .i64 (q : Int) ∧ s = .int .i64 (volW s0 xa1 q - pumW s0 a2 xa1 q) ∧ Below w.heap.size w wr ∧ w.heap.size ≤ wr.heap.size ∧ wr.ownsRow w.heap.size 2 1 v q ((rowW (misW s0 a2 xa1) q).map (Value.int .i64))) (fun _ _ i _ _ => la1 - (intOf i).toNat)
    case atStart => exact ⟨0, by omega, rfl, by show Value.int .i64 a0 = Value.int .i64 (s0 - 0); rw [hs0, Int.sub_zero], (by repeat (first | assumption | exact Below.refl _ _ | (refine Below.setCell ?_ (by first | omega | (simp; done) | (simp; omega)) _) | apply below_drewN | apply Below.drew | (refine Below.alloc ?_ (by first | omega | (simp; done) | (simp; omega)) _))), by simp, owns_made rfl (Nat.le_refl _)⟩
    case round =>
      obtain ⟨q, hq, rfl, rfl, hb, hz, hown⟩ := hrel
      by_cases hlt : q < la1
      · obtain ⟨b, o, rfl, hbB, hc⟩ := RA.out.at (by omega)
        have p := hc q hlt
        clear hc
        have hw := HV.out q hlt
        have hbd := HB.out (q + 1) (by omega)
        have hbd0 := HB.out q (by omega)
        have hp0 := HP.out q (by omega)
        have hp1 := HP.out (q + 1) (by omega)
        have HF := Lib.hid (show volW s0 xa1 (q + 1) = volW s0 xa1 q + netW (xa1.getD q zWater) from rfl)
        have HG := Lib.hid (show pumW s0 a2 xa1 (q + 1) = pumW s0 a2 xa1 q + misW s0 a2 xa1 q from rfl)
        have HM2 := Lib.hid (show misW s0 a2 xa1 q = max 0 (volW s0 xa1 (q + 1) - pumW s0 a2 xa1 q - a2) from rfl)
        have HR := Lib.hid (rowW_succ (misW s0 a2 xa1) q)
        obtain ⟨x, hx⟩ := getZW xa1 q
        rw [← hx] at p hw HF
        clear hx
        obtain ⟨x0, x1, x2, x3, x4⟩ := x
        have HPP := Lib.hid (p.below hb hbB)
        have HW := Lib.hid (net_any4 hw)
        obtain ⟨m, hm⟩ : ∃ m, m = netW ⟨x0, x1, x2, x3, x4⟩ := ⟨_, rfl⟩
        have HM := Lib.hid hm
        rw [← hm] at HF
        clear hm hw p
        obtain ⟨y, hy⟩ : ∃ y, y = volW s0 xa1 q := ⟨_, rfl⟩
        obtain ⟨pu, hpu⟩ : ∃ pu, pu = pumW s0 a2 xa1 q := ⟨_, rfl⟩
        obtain ⟨u, hu⟩ : ∃ u, u = misW s0 a2 xa1 q := ⟨_, rfl⟩
        rw [← hy, ← hpu]
        rw [← hy] at HF hbd0
        rw [← hpu] at HG HM2 hp0
        rw [← hu] at HG HM2 HR
        have hg := HG.out
        have hf := HF.out
        have hm2 := HM2.out
        rw [hf] at hm2 hbd
        rw [hg] at hp1
        push_cast at hbd hp1
        have hu0 : 0 ≤ u := by omega
        have f0 := IntWalk.i64_in (y - pu + m) (by omega)
        obtain ⟨z, hzz⟩ : ∃ z, z = y - pu + m := ⟨_, rfl⟩
        have f1 : IntKind.i64.wrap (y - pu + m) = z := f0.trans hzz.symm
        have f2 := IntWalk.i64_in (z - a2) (by omega)
        have f3 := IntWalk.i64_in (z - u) (by omega)
        have HU := Lib.hid (show u = max 0 (z - a2) by rw [hm2, hzz]; congr 1; omega)
        have HE := Lib.hid (show volW s0 xa1 (q + 1) - pumW s0 a2 xa1 (q + 1) = z - u by rw [hf, hg, hzz]; omega)
        clear hbd hbd0 hp0 hp1 hg hf hm2 hy hpu hu hzz f0 HF HG HM2 hu0
        go_wp2_with (first | (go_at_call 46; refine (netS_t _ _ x0 x1 x2 x3 x4 _ HPP.out HW.out m HM.out).mono ?_; rintro e2 W2 ⟨rfl, b2⟩; have d2 : Below w.heap.size w W2 := hb.trans (b2.mono hz); have hown2 := owns_below hown b2; have hz2 := b2.size) | (go_at_call 65; refine (maxW_t _ _ u _ HU.out).mono ?_; rintro e w' ⟨rfl, rfl⟩) | (at_builtin; refine wpl_app1 rfl _ _ rfl _ _ _ _ _ _ rfl (by exact hown2) rfl (by omega) (by omega) ?_; intro v1 w1 hown1 hb1 hz1))
        go_roundw
        case rel => exact ⟨q + 1, by omega, by go_num, by rw [HE.out], d2.trans hb1, by omega, by rw [HR.out]; simpa using hown1⟩
        case measure => simp [intOf]; omega
      · obtain rfl : q = la1 := by omega
        go_wp2
        obtain ⟨B, d, rfl, hw⟩ := own_wr hown
        go_ret2
        exact ⟨B, d, rfl, hb, hw⟩
  · have e0 : r0_MissingPumps a0 xa1 a2 = [] := by unfold r0_MissingPumps; rw [hln, if_neg h]
    have e1 : r1_MissingPumps a0 xa1 a2 = wcode la1 xa1 (volOk a0 ∧ volOk a2) := by unfold r1_MissingPumps; rw [hln]
    rw [e0, e1]
    have e6 := wcode_ne (P := volOk a0 ∧ volOk a2) h
    obtain ⟨C, hC⟩ : ∃ C, wcode la1 xa1 (volOk a0 ∧ volOk a2) = C := ⟨_, rfl⟩
    have HC := Lib.hid hC
    rw [hC] at e6 ⊢
    clear e0 e1 h hC
    go_enter Try.func41, Try.ntmps41
    go_wp2_with (first | (go_at_call 58; refine (l13Most_t a0 _ _ _ xa1 a2 _ ha1 ((RA.out.below (by repeat (first | assumption | exact Below.refl _ _ | (refine Below.setCell ?_ (by first | omega | (simp; done) | (simp; omega)) _) | apply below_drewN | apply Below.drew | (refine Below.alloc ?_ (by first | omega | (simp; done) | (simp; omega)) _)))).mono (by first | omega | (simp; done) | (simp; omega))) C HC.out).mono ?_; rintro e1 w1 ⟨rfl, rfl⟩))
    go_ret2
    exact ⟨none, 0, rfl, Below.refl _ _, rfl, fun h => absurd h (by simp)⟩

theorem Half.belowP {n b o : Nat} {f : Nat → Int} {xs : List Int} {k B : Nat} {w w' : World} (h : Half n b o f xs k w) (hb : Below B w w') (hB : b < B) : Half n b o f xs k w' := h.belowW hb hB

set_option maxHeartbeats 3200000 in
theorem implC_MissingPumps (a0 : Int) (a1 : Option Addr) (la1 ca1 : Nat) (xa1 : List RWater) (a2 : Int) (w : World) (ha0 : (Lit.int .i64 a0).wf = true) (ha1 : la1 ≤ 1048576) (ra1 : Rd_Water w w.heap.size a1 la1 xa1) (fa1 : Wf_Water xa1) (ha2 : (Lit.int .i64 a2).wf = true) :
    Calls Try.prog 42 #[.int .i64 a0, .slice a1 la1 ca1, .int .i64 a2] w fun e w' => ∃ B0 dB0, e = .returned (.tuple #[.slice B0 (r0_MissingPumps a0 xa1 a2).length dB0, .int .i64 (r1_MissingPumps a0 xa1 a2)]) ∧ Below w.heap.size w w' ∧ Wr w' w.heap.size B0 (r0_MissingPumps a0 xa1 a2).length (r0_MissingPumps a0 xa1 a2) := by
  have hln := ra1.len
  have RA := Lib.hid ra1
  clear ra1
  by_cases h : waList la1 xa1 ∧ volOk a0 ∧ volOk a2
  · have e0 : r0_MissingPumps a0 xa1 a2 = rowW (misW a0 a2 xa1) la1 := by unfold r0_MissingPumps; rw [hln, if_pos h]
    have e1 : r1_MissingPumps a0 xa1 a2 = 0 := by unfold r1_MissingPumps; rw [hln]; exact wcode_ok h.1 h.2
    rw [e0, e1, rowW_len]
    have HB := Lib.hid (volW_bd h.1.1 a0)
    have HP := Lib.hid (pumW_bd h.1.1 h.2.1 h.2.2)
    have HV := Lib.hid h.1
    have HS := Lib.hid h.2.1
    have h100 := h.1.2
    have HC := Lib.hid (wcode_ok (P := volOk a0 ∧ volOk a2) h.1 h.2)
    have HT2 := Lib.hid (show true = decide (volOk a0 ∧ volOk a2) from (decide_eq_true h.2).symm)
    obtain ⟨⟨v1, v2⟩, v3, v4⟩ := h.2
    obtain ⟨L, hL⟩ : ∃ L, L = rowW (fun k => volW a0 xa1 (k + 1)) la1 := ⟨_, rfl⟩
    have HLL := Lib.hid hL
    obtain ⟨i0, hi, hz0, hz1, hz2⟩ := info_parts info_i64
    have hmk := fun W => run_make_rowN (P := Try.prog) 40 2 i0 (.int .i64 0) Try.underlying40 hi hz0 .i64 .i64 la1 la1 (Nat.le_refl _) (by rw [hz2]; omega) (by omega) W
    rw [hz1] at hmk
    obtain ⟨cs, hcs⟩ : ∃ cs, cs = madeCells (Value.int .i64 0).cells (la1 * 1) := ⟨_, rfl⟩
    rw [← hcs] at hmk
    have hN := Lib.hid (fun W : World => show Half la1 W.heap.size 0 (misW a0 a2 xa1) (List.replicate la1 0) 0 (W.alloc (.cells cs 2)) by rw [hcs]; exact Half.new W la1 _ _ (la1 * 1) (by omega))
    clear e0 e1 h hL hi hz0 hz1 hz2 hcs
    go_enter Try.func42, Try.ntmps42
    go_wp2_with (first | (go_at_call 53; refine (areVol_two _ a0 a2 _ (by first | omega | (simp; done) | (simp; omega)) (by first | (simp; done) | go_simp) (by first | (simp; done) | go_simp) true HT2.out).mono ?_; rintro e0 W0 ⟨rfl, b0⟩; have d0 : Below w.heap.size w W0 := (by repeat (first | assumption | exact Below.refl _ _ | (refine Below.trans ?_ (b0.mono (by first | omega | (simp; done) | (simp; omega)))) | (refine Below.setCell ?_ (by first | omega | (simp; done) | (simp; omega)) _) | apply below_drewN | apply Below.drew | (refine Below.alloc ?_ (by first | omega | (simp; done) | (simp; omega)) _)))) | (go_at_call 50; refine (runCode_t _ _ _ xa1 true (volOk a0 ∧ volOk a2) _ ha1 ((RA.out.below d0).mono d0.size) HT2.out 0 HC.out).mono ?_; rintro e1 W1 ⟨rfl, b1⟩; have d1 : Below w.heap.size w W1 := d0.trans (b1.mono d0.size)) | (go_at_call 54; have d1s := d1.size; refine (volsI_t a0 _ _ _ xa1 _ ((RA.out.below (by repeat (first | assumption | exact Below.refl _ _ | (refine Below.trans ?_ (d1.mono (by first | omega | (simp; done) | (simp; omega)))) | (refine Below.setCell ?_ (by first | omega | (simp; done) | (simp; omega)) _) | apply below_drewN | apply Below.drew | (refine Below.alloc ?_ (by first | omega | (simp; done) | (simp; omega)) _)))).mono (by simp; omega)) HV.out HS.out L HLL.out).mono ?_; rintro e2 W2 ⟨B, d, rfl, b2, hw⟩; have HWR := Lib.hid hw; clear hw; have HH := Lib.hid ((hN.out W1).belowW b2 (by simp)); have q2 : W1.heap.size < W2.heap.size := (by have := b2.size; simp at this; omega); have d2 : Below w.heap.size w W2 := (by repeat (first | assumption | exact Below.refl _ _ | (refine Below.trans ?_ (b2.mono (by first | omega | (simp; done) | (simp; omega)))) | (refine Below.trans ?_ (d1.mono (by first | omega | (simp; done) | (simp; omega)))) | (refine Below.setCell ?_ (by first | omega | (simp; done) | (simp; omega)) _) | apply below_drewN | apply Below.drew | (refine Below.alloc ?_ (by first | omega | (simp; done) | (simp; omega)) _)))))
    have hws : (W1.alloc (.cells cs 2)).heap.size = W1.heap.size + 1 := by simp
    rw [hws] at HWR
    have d1s := d1.size
    clear hws b2
    go_loopw [10, 11, 12, 29] (fun pm _ _ i wr => ∃ q : Nat, q ≤ la1 ∧ i = .int .i64 (q : Int) ∧ pm = .int .i64 (pumW a0 a2 xa1 q) ∧ Below w.heap.size w wr ∧ W1.heap.size < wr.heap.size ∧ Hid (Wr wr (W1.heap.size + 1) B la1 L) ∧ Hid (Half la1 W1.heap.size 0 (misW a0 a2 xa1) (List.replicate la1 0) q wr)) (fun _ _ _ i _ => la1 - (intOf i).toNat)
    case atStart => exact ⟨0, by omega, rfl, rfl, d2, q2, HWR, HH⟩
    case round =>
      obtain ⟨q, hq, rfl, rfl, hb, hz, hWR, hH⟩ := hrel
      by_cases hlt : q < la1
      · obtain ⟨ab, o, rfl, hbl, hbB, hc⟩ := hWR.out.2 (by omega)
        have p := (hc q hlt).1
        clear hc
        rw [HLL.out, rowW_at _ _ _ hlt] at p
        have hbd := HB.out (q + 1) (by omega)
        have hp0 := HP.out q (by omega)
        have hp1 := HP.out (q + 1) (by omega)
        have HG := Lib.hid (show pumW a0 a2 xa1 (q + 1) = pumW a0 a2 xa1 q + misW a0 a2 xa1 q from rfl)
        have HM2 := Lib.hid (show misW a0 a2 xa1 q = max 0 (volW a0 xa1 (q + 1) - pumW a0 a2 xa1 q - a2) from rfl)
        obtain ⟨y, hy⟩ : ∃ y, y = volW a0 xa1 (q + 1) := ⟨_, rfl⟩
        obtain ⟨pu, hpu⟩ : ∃ pu, pu = pumW a0 a2 xa1 q := ⟨_, rfl⟩
        obtain ⟨u, hu⟩ : ∃ u, u = misW a0 a2 xa1 q := ⟨_, rfl⟩
        rw [← hy] at p HM2 hbd
        rw [← hpu] at HG HM2 hp0 ⊢
        rw [← hu] at HG HM2
        have hg2 := HG.out
        have hm2 := HM2.out
        rw [hg2] at hp1
        push_cast at hbd hp1
        have f1 := IntWalk.i64_in (y - pu) (by omega)
        have f2 := IntWalk.i64_in (y - pu - a2) (by omega)
        have hne : ¬ ab = W1.heap.size := by omega
        have hne' : ¬ W1.heap.size = ab := by omega
        obtain ⟨g1, g2⟩ := hH.out q hlt
        rw [Nat.zero_add] at g1 g2
        by_cases gg : a2 < y - pu
        · obtain rfl : u = y - pu - a2 := by omega
          have f3 := IntWalk.i64_in (pu + (y - pu - a2)) (by omega)
          have HU := Lib.hid hu
          clear hbd hp0 hp1 hg2 hm2 hy hpu hu HM2
          go_wp2
          go_roundw
          case rel => exact ⟨q + 1, by omega, by go_num, by rw [HG.out], hb.setCell d1s _, by simpa [World.setCell] using hz, Lib.hid (hWR.out.abv (by exact Abv.setCell (Abv.refl _ _) (by show W1.heap.size < W1.heap.size + 1; omega) _)), Lib.hid (by have := hH.out.step (y - pu - a2) HU.out; rw [Nat.zero_add] at this; exact this)⟩
          case measure => simp [intOf]; omega
        · obtain rfl : u = 0 := by omega
          have f3 := IntWalk.i64_in pu (by omega)
          have HU := Lib.hid hu
          have HG2 := Lib.hid (show pumW a0 a2 xa1 (q + 1) = pu by rw [HG.out, Int.add_zero])
          clear hbd hp0 hp1 hg2 hm2 hy hpu hu HM2
          go_wp2
          go_roundw
          case rel => exact ⟨q + 1, by omega, by go_num, by rw [HG2.out], hb.setCell d1s _, by simpa [World.setCell] using hz, Lib.hid (hWR.out.abv (by exact Abv.setCell (Abv.refl _ _) (by show W1.heap.size < W1.heap.size + 1; omega) _)), Lib.hid (by have := hH.out.step 0 HU.out; rw [Nat.zero_add] at this; exact this)⟩
          case measure => simp [intOf]; omega
      · obtain rfl : q = la1 := by omega
        have hw := hH.out.done (base := w.heap.size) (ys := rowW (misW a0 a2 xa1) q) (rowW_len _ _) (fun j hj => rowW_at _ q j hj) d1s hz
        go_wp2
        go_ret2
        exact ⟨_, _, rfl, hb, hw⟩
  · have e0 : r0_MissingPumps a0 xa1 a2 = [] := by unfold r0_MissingPumps; rw [hln, if_neg h]
    have e1 : r1_MissingPumps a0 xa1 a2 = wcode la1 xa1 (volOk a0 ∧ volOk a2) := by unfold r1_MissingPumps; rw [hln]
    rw [e0, e1]
    have e6 := wcode_ne (P := volOk a0 ∧ volOk a2) h
    obtain ⟨C, hC⟩ : ∃ C, wcode la1 xa1 (volOk a0 ∧ volOk a2) = C := ⟨_, rfl⟩
    have HC := Lib.hid hC
    rw [hC] at e6 ⊢
    obtain ⟨v, hv⟩ : ∃ v, v = decide (volOk a0 ∧ volOk a2) := ⟨_, rfl⟩
    have HT2 := Lib.hid hv
    clear e0 e1 h hC hv
    go_enter Try.func42, Try.ntmps42
    go_wp2_with (first | (go_at_call 53; refine (areVol_two _ a0 a2 _ (by first | omega | (simp; done) | (simp; omega)) (by first | (simp; done) | go_simp) (by first | (simp; done) | go_simp) v HT2.out).mono ?_; rintro e0 W0 ⟨rfl, b0⟩; have d0 : Below w.heap.size w W0 := (by repeat (first | assumption | exact Below.refl _ _ | (refine Below.trans ?_ (b0.mono (by first | omega | (simp; done) | (simp; omega)))) | (refine Below.setCell ?_ (by first | omega | (simp; done) | (simp; omega)) _) | apply below_drewN | apply Below.drew | (refine Below.alloc ?_ (by first | omega | (simp; done) | (simp; omega)) _)))) | (go_at_call 50; refine (runCode_t _ _ _ xa1 v (volOk a0 ∧ volOk a2) _ ha1 ((RA.out.below d0).mono d0.size) HT2.out C HC.out).mono ?_; rintro e1 W1 ⟨rfl, b1⟩; have d1 : Below w.heap.size w W1 := d0.trans (b1.mono d0.size)))
    go_ret2
    exact ⟨none, 0, rfl, d1, rfl, fun h => absurd h (by simp)⟩

end Go.Proofs.Ytfpfmfhhcgafcaa
