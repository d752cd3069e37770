import Derived.Test.YtfpfmfhhcgafcaaWatV
import Derived.Test.YtfpfmfhhcgafcaaWatS
import Derived.Test.YtfpfmfhhcgafcaaWatI
import Derived.Test.YtfpfmfhhcgafcaaWatW
namespace Go.Proofs.Ytfpfmfhhcgafcaa
open Go.RowKit

def pW (xs : List RWater) (k : Nat) : Int := volW 0 xs k
theorem pW_bd {n : Nat} {xs : List RWater} (h : waAll n xs) (hn : n ≤ 100) (k : Nat) (hk : k ≤ n) : -3000000000 ≤ pW xs k ∧ pW xs k ≤ 3000000000 := by
  have := volW_bd h 0 k hk
  unfold pW
  omega
theorem pW_succ (xs : List RWater) (k : Nat) : pW xs (k + 1) = pW xs k + netW (xs.getD k zWater) := rfl
def wA (xs : List RWater) (n : Nat) : Nat := (bstW (pW xs) (n - 1)).1
def wB (xs : List RWater) (n : Nat) : Nat := (bstW (pW xs) (n - 1)).2
theorem wAB_of {xs : List RWater} {n a b : Nat} (hn : 0 < n) (h : IsW (pW xs) n a b) : wA xs n = a ∧ wB xs n = b := by
  obtain ⟨k, rfl⟩ : ∃ k, n = k + 1 := ⟨n - 1, by omega⟩
  have e := bstW_of h
  unfold wA wB
  rw [show k + 1 - 1 = k by omega, e]
  exact ⟨rfl, rfl⟩
def r0_WorstDays (xa0 : List RWater) : Int := if waList xa0.length xa0 ∧ 0 < xa0.length then ((wA xa0 xa0.length : Nat) : Int) else 0
def r1_WorstDays (xa0 : List RWater) : Int := if waList xa0.length xa0 ∧ 0 < xa0.length then ((wB xa0 xa0.length : Nat) : Int) else 0
def r2_WorstDays (xa0 : List RWater) : Int := if waList xa0.length xa0 ∧ 0 < xa0.length then pW xa0 (wB xa0 xa0.length + 1) - pW xa0 (wA xa0 xa0.length) else 0
def r3_WorstDays (xa0 : List RWater) : Int := if waList xa0.length xa0 then (if 0 < xa0.length then 0 else 3) else wcode xa0.length xa0 True
theorem net_any5 {x0 x1 x2 x3 x4 : Int} (h : waR ⟨x0, x1, x2, x3, x4⟩) : -10000000000 ≤ x0 ∧ x0 ≤ 10000000000 ∧ -10000000000 ≤ x1 ∧ x1 ≤ 10000000000 ∧ -10000000000 ≤ x2 ∧ x2 ≤ 10000000000 ∧ -10000000000 ≤ x3 ∧ x3 ≤ 10000000000 ∧ -10000000000 ≤ x4 ∧ x4 ≤ 10000000000 := by
  obtain ⟨h0, h1, h2, h3, h4⟩ := h
  simp only at h0 h1 h2 h3 h4
  omega

set_option maxHeartbeats 3200000 in
theorem specC_WorstDays (a0 : Option Addr) (la0 ca0 : Nat) (xa0 : List RWater) (w : World) (ha0 : la0 ≤ 1048576) (ra0 : Rd_Water w w.heap.size a0 la0 xa0) (fa0 : Wf_Water xa0) :
    Calls Try.prog 36 #[.slice a0 la0 ca0] w fun e w' => e = .returned (.tuple #[.int .i64 (r0_WorstDays xa0), .int .i64 (r1_WorstDays xa0), .int .i64 (r2_WorstDays xa0), .int .i64 (r3_WorstDays xa0)]) ∧ Below w.heap.size w w' := by
  have hln := ra0.len
  have RA := Lib.hid ra0
  clear ra0
  by_cases h : waList la0 xa0
  · by_cases hn : 0 < la0
    · have e0 : r0_WorstDays xa0 = ((wA xa0 la0 : Nat) : Int) := by unfold r0_WorstDays; rw [hln, if_pos ⟨h, hn⟩]
      have e1 : r1_WorstDays xa0 = ((wB xa0 la0 : Nat) : Int) := by unfold r1_WorstDays; rw [hln, if_pos ⟨h, hn⟩]
      have e2 : r2_WorstDays xa0 = pW xa0 (wB xa0 la0 + 1) - pW xa0 (wA xa0 la0) := by unfold r2_WorstDays; rw [hln, if_pos ⟨h, hn⟩]
      have e3 : r3_WorstDays xa0 = 0 := by unfold r3_WorstDays; rw [hln, if_pos h, if_pos hn]
      have ER := Lib.hid (show ∀ a b, IsW (pW xa0) la0 a b → r0_WorstDays xa0 = (a : Int) ∧ r1_WorstDays xa0 = (b : Int) ∧ r2_WorstDays xa0 = pW xa0 (b + 1) - pW xa0 a from fun a b hw => by
        obtain ⟨h1, h2⟩ := wAB_of hn hw
        rw [e0, e1, e2, h1, h2]
        exact ⟨rfl, rfl, rfl⟩)
      rw [e3]
      generalize r0_WorstDays xa0 = R0 at *
      generalize r1_WorstDays xa0 = R1 at *
      generalize r2_WorstDays xa0 = R2 at *
      have HL := Lib.hid (wcode_ok (P := True) h trivial)
      have HV := Lib.hid h.1
      have h100 := h.2
      have HB := Lib.hid (pW_bd h.1 h.2)
      have HPS := Lib.hid (pW_succ xa0)
      have HP00 := Lib.hid (show pW xa0 0 = 0 from rfl)
      obtain ⟨p, hp⟩ : ∃ p, p = pW xa0 := ⟨_, rfl⟩
      rw [← hp] at ER HB HPS HP00
      obtain ⟨ab, o, rfl, hbB, hc⟩ := RA.out.at hn
      have HC := Lib.hid (show ∀ (W : World), Below w.heap.size w W → ∀ k, k < la0 → AtWater W ab (o + k * 5) (xa0.getD k zWater) from fun W hW k hk => (hc k hk).below hW hbB)
      have hn0 : ¬ ((la0 : Int) = 0) := by omega
      have hn9 : ¬ la0 = 0 := by omega
      have H1 := HB.out 1 (by omega)
      have HPP := HPS.out 0
      rw [HP00.out] at HPP
      obtain ⟨y, hy⟩ : ∃ y, y = xa0.getD 0 zWater := ⟨_, rfl⟩
      have HC0 := Lib.hid (show ∀ (W : World), Below w.heap.size w W → AtWater W ab o y from fun W hW => by
        have := HC.out W hW 0 hn
        rwa [← hy, Nat.zero_mul, Nat.add_zero] at this)
      have hw0 := HV.out 0 hn
      rw [← hy] at HPP hw0
      obtain ⟨y0, y1, y2, y3, y4⟩ := y
      have HW0 := Lib.hid (net_any5 hw0)
      obtain ⟨m0, hm0⟩ : ∃ m0, m0 = netW ⟨y0, y1, y2, y3, y4⟩ := ⟨_, rfl⟩
      have HM0 := Lib.hid hm0
      rw [← hm0] at HPP
      have HPM := Lib.hid (show m0 = p (0 + 1) - p 0 by rw [HP00.out]; show m0 = p 1 - 0; rw [HPP]; omega)
      clear e0 e1 e2 e3 h hp hc hm0 hw0 hy HPP H1
      go_enter Try.func36, Try.ntmps36
      go_wp2_with (first | (go_at_call 48; refine (l13List_t _ _ _ xa0 _ ha0 ((RA.out.below (by repeat (first | assumption | exact Below.refl _ _ | (refine Below.setCell ?_ (by first | omega | (simp; done) | (simp; omega)) _) | apply below_drewN | apply Below.drew | (refine Below.alloc ?_ (by first | omega | (simp; done) | (simp; omega)) _)))).mono (by first | omega | (simp; done) | (simp; omega))) 0 HL.out).mono ?_; rintro e1 w1 ⟨rfl, rfl⟩) | (go_at_call 46; refine (netS_t ab _ y0 y1 y2 y3 y4 _ (by first | exact HC0.out _ (by repeat (first | assumption | exact Below.refl _ _ | (refine Below.setCell ?_ (by first | omega | (simp; done) | (simp; omega)) _) | apply below_drewN | apply Below.drew | (refine Below.alloc ?_ (by first | omega | (simp; done) | (simp; omega)) _))) | (simpa using HC0.out _ (Below.refl _ _))) HW0.out m0 HM0.out).mono ?_; rintro e2 W2 ⟨rfl, b2⟩; have d2 : Below w.heap.size w W2 := (by repeat (first | assumption | exact Below.refl _ _ | (refine Below.trans ?_ (b2.mono (by first | omega | (simp; done) | (simp; omega)))) | (refine Below.setCell ?_ (by first | omega | (simp; done) | (simp; omega)) _) | apply below_drewN | apply Below.drew | (refine Below.alloc ?_ (by first | omega | (simp; done) | (simp; omega)) _)))))
      go_loopw [7, 8, 9, 10, 11, 12] (fun f t m i _ _ wr => ∃ q a b : Nat, ∃ mo : Int, q ≤ la0 ∧ i = .int .i64 (q : Int) ∧ f = .int .i64 (a : Int) ∧ t = .int .i64 (b : Int) ∧ m = .int .i64 mo ∧ Hid (mo = p (b + 1) - p a) ∧ Below w.heap.size w wr ∧ Hid (LkW p la0 q 0 a b)) (fun _ _ _ i _ _ _ => la0 - (intOf i).toNat)
      case atStart => exact ⟨0, 0, 0, m0, by omega, rfl, rfl, rfl, rfl, HPM, d2, Lib.hid (LkW.start p hn)⟩
      case round =>
        obtain ⟨q, a, b, mo, hq, rfl, rfl, rfl, rfl, hmo, hb, hK⟩ := hrel
        obtain ⟨wo, rfl⟩ : ∃ wo, wo = wr := ⟨_, rfl⟩
        by_cases hlt : q < la0
        · go_wp2
          go_loopw [7, 8, 9, 11, 12] (fun f t m s k wr => ∃ c a b : Nat, ∃ mo su : Int, q ≤ c ∧ c ≤ la0 ∧ k = .int .i64 (c : Int) ∧ f = .int .i64 (a : Int) ∧ t = .int .i64 (b : Int) ∧ m = .int .i64 mo ∧ s = .int .i64 su ∧ Hid (mo = p (b + 1) - p a) ∧ Hid (su = p c - p q) ∧ Below w.heap.size w wr ∧ Hid (LkW p la0 q c a b)) (fun _ _ _ _ k _ => la0 - (intOf k).toNat)
          case atStart => exact ⟨q, a, b, mo, 0, by omega, by omega, rfl, rfl, rfl, rfl, rfl, hmo, Lib.hid (by omega), hb, Lib.hid hK.out.first⟩
          case round =>
            obtain ⟨c, a, b, mo, su, hqc, hcn, rfl, rfl, rfl, rfl, rfl, hmo, hsu, hb, hK⟩ := hrel
            have hzb := hb.size
            by_cases hlc : c < la0
            · have HCC := Lib.hid (HC.out _ hb c hlc)
              have hw := HV.out c hlc
              have hs := HPS.out c
              have b1 := HB.out c (by omega)
              have b2 := HB.out (c + 1) (by omega)
              have b3 := HB.out q (by omega)
              obtain ⟨x, hx⟩ := getZW xa0 c
              rw [← hx] at HCC hw hs
              clear hx
              obtain ⟨x0, x1, x2, x3, x4⟩ := x
              have HW := Lib.hid (net_any5 hw)
              obtain ⟨m, hm⟩ : ∃ m, m = netW ⟨x0, x1, x2, x3, x4⟩ := ⟨_, rfl⟩
              have HM := Lib.hid hm
              rw [← hm] at hs
              have hsu2 := hsu.out
              have hmo2 := hmo.out
              have f0 := IntWalk.i64_in (su + m) (by omega)
              have HSU := Lib.hid (show su + m = p (c + 1) - p q by omega)
              have hi := IntWalk.i64_in (c : Int) (by omega)
              clear hm hw hs b1 b2 b3 hsu2 hmo2
              by_cases g : mo < su + m
              · have HK2 := Lib.hid (hK.out.yes hqc hlc (by rw [← hmo.out, ← HSU.out]; exact g))
                have g' : su + m > mo := g
                go_wp2_with (first | (go_at_call 46; refine (netS_t ab _ x0 x1 x2 x3 x4 _ HCC.out HW.out m HM.out).mono ?_; rintro e2 W2 ⟨rfl, b2⟩; have d2 : Below w.heap.size w W2 := hb.trans (b2.mono hzb)))
                go_roundw
                case rel => exact ⟨c + 1, q, c, su + m, su + m, by omega, by omega, by go_num, rfl, rfl, rfl, rfl, HSU, HSU, d2, HK2⟩
                case measure => simp [intOf]; omega
              · have HK2 := Lib.hid (hK.out.no hqc hlc (by rw [← hmo.out, ← HSU.out]; exact g))
                have g' : ¬ su + m > mo := g
                go_wp2_with (first | (go_at_call 46; refine (netS_t ab _ x0 x1 x2 x3 x4 _ HCC.out HW.out m HM.out).mono ?_; rintro e2 W2 ⟨rfl, b2⟩; have d2 : Below w.heap.size w W2 := hb.trans (b2.mono hzb)))
                go_roundw
                case rel => exact ⟨c + 1, a, b, mo, su + m, by omega, by omega, by go_num, rfl, rfl, rfl, rfl, hmo, HSU, d2, HK2⟩
                case measure => simp [intOf]; omega
            · obtain rfl : c = la0 := by omega
              have HK2 := Lib.hid hK.out.next
              go_wp2
              go_roundw
              case rel => exact ⟨q + 1, a, b, mo, by omega, by go_num, rfl, rfl, rfl, hmo, hb, HK2⟩
              case measure => simp [intOf]; omega
        · obtain rfl : q = la0 := by omega
          obtain ⟨er0, er1, er2⟩ := ER.out a b hK.out.done
          rw [← hmo.out] at er2
          subst er0 er1 er2
          go_wp2
          exact bodyPost_ret (v := .tuple #[.int .i64 (a : Int), .int .i64 (b : Int), .int .i64 R2, .int .i64 0]) (by simp [results, Try.results36, go_sem]) rfl ⟨rfl, hb⟩
    · obtain rfl : la0 = 0 := by omega
      have e0 : r0_WorstDays xa0 = 0 := by unfold r0_WorstDays; rw [hln, if_neg (fun g => hn g.2)]
      have e1 : r1_WorstDays xa0 = 0 := by unfold r1_WorstDays; rw [hln, if_neg (fun g => hn g.2)]
      have e2 : r2_WorstDays xa0 = 0 := by unfold r2_WorstDays; rw [hln, if_neg (fun g => hn g.2)]
      have e3 : r3_WorstDays xa0 = 3 := by unfold r3_WorstDays; rw [hln, if_pos h, if_neg hn]
      rw [e0, e1, e2, e3]
      have HL := Lib.hid (wcode_ok (P := True) h trivial)
      clear e0 e1 e2 e3 h hn
      go_enter Try.func36, Try.ntmps36
      go_wp2_with (first | (go_at_call 48; refine (l13List_t _ _ _ xa0 _ ha0 ((RA.out.below (by repeat (first | assumption | exact Below.refl _ _ | (refine Below.setCell ?_ (by first | omega | (simp; done) | (simp; omega)) _) | apply below_drewN | apply Below.drew | (refine Below.alloc ?_ (by first | omega | (simp; done) | (simp; omega)) _)))).mono (by first | omega | (simp; done) | (simp; omega))) 0 HL.out).mono ?_; rintro e1 w1 ⟨rfl, rfl⟩))
      exact bodyPost_ret (v := .tuple #[.int .i64 0, .int .i64 0, .int .i64 0, .int .i64 3]) (by simp [results, Try.results36, go_sem]) rfl ⟨rfl, Below.refl _ _⟩
  · have e0 : r0_WorstDays xa0 = 0 := by unfold r0_WorstDays; rw [hln, if_neg (fun g => h g.1)]
    have e1 : r1_WorstDays xa0 = 0 := by unfold r1_WorstDays; rw [hln, if_neg (fun g => h g.1)]
    have e2 : r2_WorstDays xa0 = 0 := by unfold r2_WorstDays; rw [hln, if_neg (fun g => h g.1)]
    have e3 : r3_WorstDays xa0 = wcode la0 xa0 True := by unfold r3_WorstDays; rw [hln, if_neg h]
    rw [e0, e1, e2, e3]
    have e6 := wcode_ne (P := True) (fun g => h g.1)
    have e7 := wcode_nz (P := True) h
    obtain ⟨C, hC⟩ : ∃ C, wcode la0 xa0 True = C := ⟨_, rfl⟩
    have HL := Lib.hid hC
    rw [hC] at e6 e7 ⊢
    clear e0 e1 e2 e3 h hC
    go_enter Try.func36, Try.ntmps36
    go_wp2_with (first | (go_at_call 48; refine (l13List_t _ _ _ xa0 _ ha0 ((RA.out.below (by repeat (first | assumption | exact Below.refl _ _ | (refine Below.setCell ?_ (by first | omega | (simp; done) | (simp; omega)) _) | apply below_drewN | apply Below.drew | (refine Below.alloc ?_ (by first | omega | (simp; done) | (simp; omega)) _)))).mono (by first | omega | (simp; done) | (simp; omega))) C HL.out).mono ?_; rintro e1 w1 ⟨rfl, rfl⟩))
    exact bodyPost_ret (v := .tuple #[.int .i64 0, .int .i64 0, .int .i64 0, .int .i64 C]) (by simp [results, Try.results36, go_sem]) rfl ⟨rfl, Below.refl _ _⟩
set_option maxHeartbeats 1600000 in
theorem implC_WorstDays (a0 : Option Addr) (la0 ca0 : Nat) (xa0 : List RWater) (w : World) (ha0 : la0 ≤ 1048576) (ra0 : Rd_Water w w.heap.size a0 la0 xa0) (fa0 : Wf_Water xa0) :
    Calls Try.prog 37 #[.slice a0 la0 ca0] w fun e w' => e = .returned (.tuple #[.int .i64 (r0_WorstDays xa0), .int .i64 (r1_WorstDays xa0), .int .i64 (r2_WorstDays xa0), .int .i64 (r3_WorstDays xa0)]) ∧ Below w.heap.size w w' := by
  have hln := ra0.len
  have RA := Lib.hid ra0
  clear ra0
  by_cases h : waList la0 xa0
  · have HL := Lib.hid (wcode_ok (P := True) h trivial)
    by_cases hn : 0 < la0
    · have e0 : r0_WorstDays xa0 = ((wA xa0 la0 : Nat) : Int) := by unfold r0_WorstDays; rw [hln, if_pos ⟨h, hn⟩]
      have e1 : r1_WorstDays xa0 = ((wB xa0 la0 : Nat) : Int) := by unfold r1_WorstDays; rw [hln, if_pos ⟨h, hn⟩]
      have e2 : r2_WorstDays xa0 = pW xa0 (wB xa0 la0 + 1) - pW xa0 (wA xa0 la0) := by unfold r2_WorstDays; rw [hln, if_pos ⟨h, hn⟩]
      have e3 : r3_WorstDays xa0 = 0 := by unfold r3_WorstDays; rw [hln, if_pos h, if_pos hn]
      have ER := Lib.hid (show ∀ a b m f l e, EnW (pW xa0) la0 f l e a b m → r0_WorstDays xa0 = a ∧ r1_WorstDays xa0 = b ∧ r2_WorstDays xa0 = m from fun a b m f l e hw => by
        obtain ⟨k, hk⟩ : ∃ k, la0 = k + 1 := ⟨la0 - 1, by omega⟩
        obtain ⟨_, _, _, ha, hb, hm⟩ := hw.2 k hk
        have hk2 : la0 - 1 = k := by omega
        rw [e0, e1, e2, ha, hb, hm]
        unfold wA wB
        rw [hk2]
        exact ⟨rfl, rfl, rfl⟩)
      rw [e3]
      generalize r0_WorstDays xa0 = R0 at *
      generalize r1_WorstDays xa0 = R1 at *
      generalize r2_WorstDays xa0 = R2 at *
      have HV := Lib.hid h
      have HB := Lib.hid (pW_bd h.1 h.2)
      have hn0 : ((la0 : Int) == 0) = false := by simp; omega
      have hn9 : ¬ la0 = 0 := by omega
      clear e0 e1 e2 e3 h
      go_enter Try.func37, Try.ntmps37
      go_wp2_with (first | (go_at_call 50; refine (runCode_t _ _ _ xa0 true True _ ha0 ((RA.out.below (by repeat (first | assumption | exact Below.refl _ _ | (refine Below.setCell ?_ (by first | omega | (simp; done) | (simp; omega)) _) | apply below_drewN | apply Below.drew | (refine Below.alloc ?_ (by first | omega | (simp; done) | (simp; omega)) _)))).mono (by first | omega | (simp; done) | (simp; omega))) rfl 0 HL.out).mono ?_; rintro e1 W1 ⟨rfl, b1⟩; have d1 : Below w.heap.size w W1 := (by repeat (first | assumption | exact Below.refl _ _ | (refine Below.trans ?_ (b1.mono (by first | omega | (simp; done) | (simp; omega)))) | (refine Below.setCell ?_ (by first | omega | (simp; done) | (simp; omega)) _) | apply below_drewN | apply Below.drew | (refine Below.alloc ?_ (by first | omega | (simp; done) | (simp; omega)) _)))) | (go_at_call 61; refine (worst_t _ _ _ xa0 _ ha0 hn ((RA.out.below d1).mono d1.size) HV.out (pW xa0) (pW_succ xa0) HB.out R0 R1 R2 ER.out).mono ?_; rintro e2 W2 ⟨rfl, b2⟩; have d2 : Below w.heap.size w W2 := d1.trans (b2.mono d1.size); have q2 := d2.size))
      go_quiet (fail)
      go_wp2
      exact bodyPost_ret (v := .tuple #[.int .i64 R0, .int .i64 R1, .int .i64 R2, .int .i64 0]) (by simp [results, Try.results37, go_sem]) rfl ⟨rfl, (by repeat (first | assumption | exact Below.refl _ _ | (refine Below.trans ?_ (d2.mono (by first | omega | (simp; done) | (simp; omega)))) | (refine Below.setCell ?_ (by first | omega | (simp; done) | (simp; omega)) _) | apply below_drewN | apply Below.drew | (refine Below.alloc ?_ (by first | omega | (simp; done) | (simp; omega)) _)))⟩
    · obtain rfl : la0 = 0 := by omega
      have e0 : r0_WorstDays xa0 = 0 := by unfold r0_WorstDays; rw [hln, if_neg (fun g => hn g.2)]
      have e1 : r1_WorstDays xa0 = 0 := by unfold r1_WorstDays; rw [hln, if_neg (fun g => hn g.2)]
      have e2 : r2_WorstDays xa0 = 0 := by unfold r2_WorstDays; rw [hln, if_neg (fun g => hn g.2)]
      have e3 : r3_WorstDays xa0 = 3 := by unfold r3_WorstDays; rw [hln, if_pos h, if_neg hn]
      rw [e0, e1, e2, e3]
      clear e0 e1 e2 e3 h hn
      go_enter Try.func37, Try.ntmps37
      go_wp2_with (first | (go_at_call 50; refine (runCode_t _ _ _ xa0 true True _ ha0 ((RA.out.below (by repeat (first | assumption | exact Below.refl _ _ | (refine Below.setCell ?_ (by first | omega | (simp; done) | (simp; omega)) _) | apply below_drewN | apply Below.drew | (refine Below.alloc ?_ (by first | omega | (simp; done) | (simp; omega)) _)))).mono (by first | omega | (simp; done) | (simp; omega))) rfl 0 HL.out).mono ?_; rintro e1 W1 ⟨rfl, b1⟩; have d1 : Below w.heap.size w W1 := (by repeat (first | assumption | exact Below.refl _ _ | (refine Below.trans ?_ (b1.mono (by first | omega | (simp; done) | (simp; omega)))) | (refine Below.setCell ?_ (by first | omega | (simp; done) | (simp; omega)) _) | apply below_drewN | apply Below.drew | (refine Below.alloc ?_ (by first | omega | (simp; done) | (simp; omega)) _)))))
      exact bodyPost_ret (v := .tuple #[.int .i64 0, .int .i64 0, .int .i64 0, .int .i64 3]) (by simp [results, Try.results37, go_sem]) rfl ⟨rfl, d1⟩
  · have e0 : r0_WorstDays xa0 = 0 := by unfold r0_WorstDays; rw [hln, if_neg (fun g => h g.1)]
    have e1 : r1_WorstDays xa0 = 0 := by unfold r1_WorstDays; rw [hln, if_neg (fun g => h g.1)]
    have e2 : r2_WorstDays xa0 = 0 := by unfold r2_WorstDays; rw [hln, if_neg (fun g => h g.1)]
    have e3 : r3_WorstDays xa0 = wcode la0 xa0 True := by unfold r3_WorstDays; rw [hln, if_neg h]
    rw [e0, e1, e2, e3]
    have e6 := wcode_ne (P := True) (fun g => h g.1)
    obtain ⟨C, hC⟩ : ∃ C, wcode la0 xa0 True = C := ⟨_, rfl⟩
    have HL := Lib.hid hC
    rw [hC] at e6 ⊢
    clear e0 e1 e2 e3 h hC
    go_enter Try.func37, Try.ntmps37
    go_wp2_with (first | (go_at_call 50; refine (runCode_t _ _ _ xa0 true True _ ha0 ((RA.out.below (by repeat (first | assumption | exact Below.refl _ _ | (refine Below.setCell ?_ (by first | omega | (simp; done) | (simp; omega)) _) | apply below_drewN | apply Below.drew | (refine Below.alloc ?_ (by first | omega | (simp; done) | (simp; omega)) _)))).mono (by first | omega | (simp; done) | (simp; omega))) rfl C HL.out).mono ?_; rintro e1 W1 ⟨rfl, b1⟩; have d1 : Below w.heap.size w W1 := (by repeat (first | assumption | exact Below.refl _ _ | (refine Below.trans ?_ (b1.mono (by first | omega | (simp; done) | (simp; omega)))) | (refine Below.setCell ?_ (by first | omega | (simp; done) | (simp; omega)) _) | apply below_drewN | apply Below.drew | (refine Below.alloc ?_ (by first | omega | (simp; done) | (simp; omega)) _)))))
    exact bodyPost_ret (v := .tuple #[.int .i64 0, .int .i64 0, .int .i64 0, .int .i64 C]) (by simp [results, Try.results37, go_sem]) rfl ⟨rfl, d1⟩

end Go.Proofs.Ytfpfmfhhcgafcaa
