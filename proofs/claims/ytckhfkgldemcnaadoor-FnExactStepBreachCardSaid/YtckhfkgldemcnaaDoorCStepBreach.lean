/- The breach after an hour. -/
import Derived.Test.YtckhfkgldemcnaaDoorBreX
namespace Go.Proofs.YtckhfkgldemcnaaDoor
open Go.RowKit

def r0_StepBreach (xa0_0 : List Int) (xa0_1 : List Int) (a1_0 : Int) (a1_1 : Int) (a1_2 : Int) (a2 : Int) (a3 : Int) : Int := if brOk xa0_0 xa0_1 a1_0 a1_1 a1_2 ∧ levOk a2 ∧ stoOk a3 then stW a1_0 (headN xa0_0 xa0_1 a1_1 a1_2 a2) a3 else 0
def r1_StepBreach (xa0_0 : List Int) (xa0_1 : List Int) (a1_0 : Int) (a1_1 : Int) (a1_2 : Int) (a2 : Int) (a3 : Int) : Int := if brOk xa0_0 xa0_1 a1_0 a1_1 a1_2 ∧ levOk a2 ∧ stoOk a3 then a1_1 else 0
def r2_StepBreach (xa0_0 : List Int) (xa0_1 : List Int) (a1_0 : Int) (a1_1 : Int) (a1_2 : Int) (a2 : Int) (a3 : Int) : Int := if brOk xa0_0 xa0_1 a1_0 a1_1 a1_2 ∧ levOk a2 ∧ stoOk a3 then a1_2 + inflN xa0_0 xa0_1 a1_0 a1_1 a1_2 a2 else 0
def r3_StepBreach (xa0_0 : List Int) (xa0_1 : List Int) (a1_0 : Int) (a1_1 : Int) (a1_2 : Int) (a2 : Int) (a3 : Int) : Int := bcode xa0_0 xa0_1 a1_0 a1_1 a1_2 (levOk a2 ∧ stoOk a3)

set_option maxRecDepth 100000 in
set_option maxHeartbeats 3200000 in
theorem specC_StepBreach (a0_0 : Option Addr) (la0_0 ca0_0 : Nat) (xa0_0 : List Int) (a0_1 : Option Addr) (la0_1 ca0_1 : Nat) (xa0_1 : List Int) (a1_0 : Int) (a1_1 : Int) (a1_2 : Int) (a2 : Int) (a3 : Int) (w : World) (ha0_0 : la0_0 ≤ 1048576) (ra0_0 : Rd w w.heap.size a0_0 la0_0 xa0_0) (fa0_0 : Wf xa0_0) (ha0_1 : la0_1 ≤ 1048576) (ra0_1 : Rd w w.heap.size a0_1 la0_1 xa0_1) (fa0_1 : Wf xa0_1) (ha1_0 : (Lit.int .i64 a1_0).wf = true) (ha1_1 : (Lit.int .i64 a1_1).wf = true) (ha1_2 : (Lit.int .i64 a1_2).wf = true) (ha2 : (Lit.int .i64 a2).wf = true) (ha3 : (Lit.int .i64 a3).wf = true) :
    Calls Tryd.prog 21 #[.agg #[.slice a0_0 la0_0 ca0_0, .slice a0_1 la0_1 ca0_1], .agg #[.int .i64 a1_0, .int .i64 a1_1, .int .i64 a1_2], .int .i64 a2, .int .i64 a3] w fun e w' => e = .returned (.tuple #[.agg #[.int .i64 (r0_StepBreach xa0_0 xa0_1 a1_0 a1_1 a1_2 a2 a3), .int .i64 (r1_StepBreach xa0_0 xa0_1 a1_0 a1_1 a1_2 a2 a3), .int .i64 (r2_StepBreach xa0_0 xa0_1 a1_0 a1_1 a1_2 a2 a3)], .int .i64 (r3_StepBreach xa0_0 xa0_1 a1_0 a1_1 a1_2 a2 a3)]) ∧ Below w.heap.size w w' := by
  have RA := Lib.hid ra0_0
  have RB := Lib.hid ra0_1
  clear ra0_0 ra0_1
  by_cases h : brOk xa0_0 xa0_1 a1_0 a1_1 a1_2 ∧ levOk a2 ∧ stoOk a3
  · obtain ⟨z0, e0⟩ : ∃ z, z = stW a1_0 (headN xa0_0 xa0_1 a1_1 a1_2 a2) a3 := ⟨_, rfl⟩
    obtain ⟨z2, e2⟩ : ∃ z, z = a1_2 + inflN xa0_0 xa0_1 a1_0 a1_1 a1_2 a2 := ⟨_, rfl⟩
    obtain ⟨cl, e3⟩ : ∃ z, z = cloN a1_0 (headN xa0_0 xa0_1 a1_1 a1_2 a2) a3 := ⟨_, rfl⟩
    rw [show r0_StepBreach xa0_0 xa0_1 a1_0 a1_1 a1_2 a2 a3 = z0 by rw [e0]; exact if_pos h, show r1_StepBreach xa0_0 xa0_1 a1_0 a1_1 a1_2 a2 a3 = a1_1 from if_pos h, show r2_StepBreach xa0_0 xa0_1 a1_0 a1_1 a1_2 a2 a3 = z2 by rw [e2]; exact if_pos h, show r3_StepBreach xa0_0 xa0_1 a1_0 a1_1 a1_2 a2 a3 = 0 from bcode_t h.1 h.2]
    have HB := Lib.hid h.1
    have HY := Lib.hid h.2.1
    have HS := Lib.hid h.2.2
    have HK := Lib.hid (bcode_t h.1 h.2.1).symm
    have HT := Lib.hid (show true = decide (stoOk a3) from (decide_eq_true h.2.2).symm)
    have E0 := Lib.hid e0
    have E2 := Lib.hid e2
    have E3 := Lib.hid e3
    clear h e0 e2 e3
    go_enter Tryd.func21, Tryd.ntmps21
    go_wp2_with (first | (go_at_call 46; refine (l12Code_any _ a0_0 la0_0 ca0_0 xa0_0 a0_1 la0_1 ca0_1 xa0_1 a1_0 a1_1 a1_2 a2 _ (by first | omega | (simp; done) | (simp; omega)) ⟨by first | (simp; done) | go_simp, by first | (simp; done) | go_simp⟩ ha0_0 ha0_1 ((RA.out.below (by repeat (first | assumption | exact Below.refl _ _ | (refine Below.setCell ?_ (by first | omega | (simp; done) | (simp; omega)) _) | apply below_drewN | apply Below.drew | (refine Below.alloc ?_ (by first | omega | (simp; done) | (simp; omega)) _)))).mono (by first | omega | (simp; done) | (simp; omega))) ((RB.out.below (by repeat (first | assumption | exact Below.refl _ _ | (refine Below.setCell ?_ (by first | omega | (simp; done) | (simp; omega)) _) | apply below_drewN | apply Below.drew | (refine Below.alloc ?_ (by first | omega | (simp; done) | (simp; omega)) _)))).mono (by first | omega | (simp; done) | (simp; omega))) 0 HK.out).mono ?_; rintro e1 W1 ⟨rfl, b1⟩; have EE : Below (w.heap.size + 1 + 1 + 1) (((w.alloc (.cells #[.slice a0_0 la0_0 ca0_0, .slice a0_1 la0_1 ca0_1] 30)).alloc (.cells #[.int .i64 a1_0, .int .i64 a1_1, .int .i64 a1_2] 32)).alloc (.cells #[.int .i64 0, .int .i64 0, .int .i64 0] 32)) W1 := (by repeat (first | assumption | exact Below.refl _ _ | (refine Below.trans ?_ (b1.mono (by first | omega | (simp; done) | (simp; omega)))) | (refine Below.setCell ?_ (by first | omega | (simp; done) | (simp; omega)) _) | apply below_drewN | apply Below.drew | (refine Below.alloc ?_ (by first | omega | (simp; done) | (simp; omega)) _))); have s1 : w.heap.size + 1 + 1 < W1.heap.size := (by have := b1.size; (try simp at this); omega); have d1 : Below w.heap.size w W1 := (by repeat (first | assumption | exact Below.refl _ _ | (refine Below.trans ?_ (b1.mono (by first | omega | (simp; done) | (simp; omega)))) | (refine Below.setCell ?_ (by first | omega | (simp; done) | (simp; omega)) _) | apply below_drewN | apply Below.drew | (refine Below.alloc ?_ (by first | omega | (simp; done) | (simp; omega)) _))); obtain ⟨c0, c1, g0, g1, g2, _, _, _, _, _, _⟩ := box3 EE; have EH := Lib.hid EE; clear EE b1) | (go_at_call 53; refine (stS_any _ _ _ HT.out).mono ?_; rintro e4 w4 ⟨rfl, rfl⟩) | (go_at_call 54; refine (stepS_t _ a0_0 la0_0 ca0_0 xa0_0 a0_1 la0_1 ca0_1 xa0_1 a1_0 a1_1 a1_2 a2 a3 _ (by first | omega | (simp; done) | (simp; omega)) ⟨c0, c1⟩ ha0_0 ha0_1 ((RA.out.below (by repeat (first | assumption | exact Below.refl _ _ | (refine Below.trans ?_ (d1.mono (by first | omega | (simp; done) | (simp; omega)))) | (refine Below.setCell ?_ (by first | omega | (simp; done) | (simp; omega)) _) | apply below_drewN | apply Below.drew | (refine Below.alloc ?_ (by first | omega | (simp; done) | (simp; omega)) _)))).mono (by first | omega | (simp; done) | (simp; omega))) ((RB.out.below (by repeat (first | assumption | exact Below.refl _ _ | (refine Below.trans ?_ (d1.mono (by first | omega | (simp; done) | (simp; omega)))) | (refine Below.setCell ?_ (by first | omega | (simp; done) | (simp; omega)) _) | apply below_drewN | apply Below.drew | (refine Below.alloc ?_ (by first | omega | (simp; done) | (simp; omega)) _)))).mono (by first | omega | (simp; done) | (simp; omega))) HB.out HY.out HS.out z0 z2 cl E0.out E2.out E3.out).mono ?_; rintro e2 W2 ⟨rfl, b2⟩; have d2 : Below w.heap.size w W2 := (by repeat (first | assumption | exact Below.refl _ _ | (refine Below.trans ?_ (b2.mono (by first | omega | (simp; done) | (simp; omega)))) | (refine Below.trans ?_ (d1.mono (by first | omega | (simp; done) | (simp; omega)))) | (refine Below.setCell ?_ (by first | omega | (simp; done) | (simp; omega)) _) | apply below_drewN | apply Below.drew | (refine Below.alloc ?_ (by first | omega | (simp; done) | (simp; omega)) _))); have E2H := Lib.hid (show Below (w.heap.size + 1 + 1 + 1) (((w.alloc (.cells #[.slice a0_0 la0_0 ca0_0, .slice a0_1 la0_1 ca0_1] 30)).alloc (.cells #[.int .i64 a1_0, .int .i64 a1_1, .int .i64 a1_2] 32)).alloc (.cells #[.int .i64 0, .int .i64 0, .int .i64 0] 32)) W2 from EH.out.trans (b2.mono (by omega))); have s2 : w.heap.size + 1 + 1 < W2.heap.size := (by have := b2.size; (try simp at this); omega); clear b2 c0 c1 g0 g1 g2; obtain ⟨_, _, _, _, _, x0, x1, x2, f0, f1, f2⟩ := box3 E2H.out))
    have PZ := three_back (w := W2) (r := w.heap.size + 1 + 1) (v0 := .int .i64 z0) (v1 := .int .i64 a1_1) (v2 := .int .i64 z2) x0 x1 x2
    have le9 : ∀ j, w.heap.size ≤ (⟨w.heap.size + 1 + 1, j, none⟩ : Addr).block := fun j => (show w.heap.size ≤ w.heap.size + 1 + 1 by omega)
    have DZ : Below w.heap.size w (((W2.setCell ⟨w.heap.size + 1 + 1, 0, none⟩ (.int .i64 z0)).setCell ⟨w.heap.size + 1 + 1, 1, none⟩ (.int .i64 a1_1)).setCell ⟨w.heap.size + 1 + 1, 2, none⟩ (.int .i64 z2)) := ((d2.setCell (le9 0) _).setCell (le9 1) _).setCell (le9 2) _
    have SZ : w.heap.size + 1 + 1 < ((((W2.setCell ⟨w.heap.size + 1 + 1, 0, none⟩ (.int .i64 z0)).setCell ⟨w.heap.size + 1 + 1, 1, none⟩ (.int .i64 a1_1)).setCell ⟨w.heap.size + 1 + 1, 2, none⟩ (.int .i64 z2))).heap.size := by simpa [World.setCell] using s2
    generalize (((W2.setCell ⟨w.heap.size + 1 + 1, 0, none⟩ (.int .i64 z0)).setCell ⟨w.heap.size + 1 + 1, 1, none⟩ (.int .i64 a1_1)).setCell ⟨w.heap.size + 1 + 1, 2, none⟩ (.int .i64 z2)) = Z at PZ DZ SZ ⊢
    obtain ⟨p0, p1, p2⟩ := PZ
    have PA : Below Z.heap.size Z (Z.alloc (.cells #[.int .i64 z0, .int .i64 a1_1, .int .i64 z2] 32)) := Below.alloc (Below.refl _ _) (Nat.le_refl _) _
    have DA : Below w.heap.size w (Z.alloc (.cells #[.int .i64 z0, .int .i64 a1_1, .int .i64 z2] 32)) := DZ.trans (PA.mono (by omega))
    have p0 := (PA.cell (p := ⟨w.heap.size + 1 + 1, 0, none⟩) SZ).trans p0
    have p1 := (PA.cell (p := ⟨w.heap.size + 1 + 1, 1, none⟩) SZ).trans p1
    have p2 := (PA.cell (p := ⟨w.heap.size + 1 + 1, 2, none⟩) SZ).trans p2
    generalize Z.alloc (.cells #[.int .i64 z0, .int .i64 a1_1, .int .i64 z2] 32) = Z2 at p0 p1 p2 DA ⊢
    exact bodyPost_ret (v := .tuple #[.agg #[.int .i64 z0, .int .i64 a1_1, .int .i64 z2], .int .i64 0]) (by simp [results, Tryd.results21, go_sem, p0, p1, p2]) rfl ⟨rfl, DA⟩
  · rw [show r0_StepBreach xa0_0 xa0_1 a1_0 a1_1 a1_2 a2 a3 = 0 from if_neg h, show r1_StepBreach xa0_0 xa0_1 a1_0 a1_1 a1_2 a2 a3 = 0 from if_neg h, show r2_StepBreach xa0_0 xa0_1 a1_0 a1_1 a1_2 a2 a3 = 0 from if_neg h]
    obtain ⟨k, hk⟩ : ∃ k, k = r3_StepBreach xa0_0 xa0_1 a1_0 a1_1 a1_2 a2 a3 := ⟨_, rfl⟩
    rw [← hk]
    unfold r3_StepBreach at hk
    by_cases h1 : brOk xa0_0 xa0_1 a1_0 a1_1 a1_2 ∧ levOk a2
    · have h2 : ¬ stoOk a3 := fun g => h ⟨h1.1, h1.2, g⟩
      have hk2 : k = 2 := by rw [hk]; unfold bcode; rw [if_pos h1.1, if_neg (fun g => h2 g.2)]
      subst hk2
      have HK := Lib.hid (bcode_t h1.1 h1.2).symm
      have HT := Lib.hid (show false = decide (stoOk a3) from (decide_eq_false h2).symm)
      clear h h1 h2 hk
      go_enter Tryd.func21, Tryd.ntmps21
      go_wp2_with (first | (go_at_call 46; refine (l12Code_any _ a0_0 la0_0 ca0_0 xa0_0 a0_1 la0_1 ca0_1 xa0_1 a1_0 a1_1 a1_2 a2 _ (by first | omega | (simp; done) | (simp; omega)) ⟨by first | (simp; done) | go_simp, by first | (simp; done) | go_simp⟩ ha0_0 ha0_1 ((RA.out.below (by repeat (first | assumption | exact Below.refl _ _ | (refine Below.setCell ?_ (by first | omega | (simp; done) | (simp; omega)) _) | apply below_drewN | apply Below.drew | (refine Below.alloc ?_ (by first | omega | (simp; done) | (simp; omega)) _)))).mono (by first | omega | (simp; done) | (simp; omega))) ((RB.out.below (by repeat (first | assumption | exact Below.refl _ _ | (refine Below.setCell ?_ (by first | omega | (simp; done) | (simp; omega)) _) | apply below_drewN | apply Below.drew | (refine Below.alloc ?_ (by first | omega | (simp; done) | (simp; omega)) _)))).mono (by first | omega | (simp; done) | (simp; omega))) 0 HK.out).mono ?_; rintro e1 W1 ⟨rfl, b1⟩; have EE : Below (w.heap.size + 1 + 1 + 1) (((w.alloc (.cells #[.slice a0_0 la0_0 ca0_0, .slice a0_1 la0_1 ca0_1] 30)).alloc (.cells #[.int .i64 a1_0, .int .i64 a1_1, .int .i64 a1_2] 32)).alloc (.cells #[.int .i64 0, .int .i64 0, .int .i64 0] 32)) W1 := (by repeat (first | assumption | exact Below.refl _ _ | (refine Below.trans ?_ (b1.mono (by first | omega | (simp; done) | (simp; omega)))) | (refine Below.setCell ?_ (by first | omega | (simp; done) | (simp; omega)) _) | apply below_drewN | apply Below.drew | (refine Below.alloc ?_ (by first | omega | (simp; done) | (simp; omega)) _))); have s1 : w.heap.size + 1 + 1 < W1.heap.size := (by have := b1.size; (try simp at this); omega); have d1 : Below w.heap.size w W1 := (by repeat (first | assumption | exact Below.refl _ _ | (refine Below.trans ?_ (b1.mono (by first | omega | (simp; done) | (simp; omega)))) | (refine Below.setCell ?_ (by first | omega | (simp; done) | (simp; omega)) _) | apply below_drewN | apply Below.drew | (refine Below.alloc ?_ (by first | omega | (simp; done) | (simp; omega)) _))); obtain ⟨_, _, _, _, _, x0, x1, x2, f0, f1, f2⟩ := box3 EE; clear EE b1) | (go_at_call 53; refine (stS_any _ _ _ HT.out).mono ?_; rintro e4 w4 ⟨rfl, rfl⟩))
      have PZ := three_back (w := W1) (r := w.heap.size + 1 + 1) (v0 := .int .i64 0) (v1 := .int .i64 0) (v2 := .int .i64 0) x0 x1 x2
      have le9 : ∀ j, w.heap.size ≤ (⟨w.heap.size + 1 + 1, j, none⟩ : Addr).block := fun j => (show w.heap.size ≤ w.heap.size + 1 + 1 by omega)
      have DZ : Below w.heap.size w (((W1.setCell ⟨w.heap.size + 1 + 1, 0, none⟩ (.int .i64 0)).setCell ⟨w.heap.size + 1 + 1, 1, none⟩ (.int .i64 0)).setCell ⟨w.heap.size + 1 + 1, 2, none⟩ (.int .i64 0)) := (((d1).setCell (le9 0) _).setCell (le9 1) _).setCell (le9 2) _
      generalize (((W1.setCell ⟨w.heap.size + 1 + 1, 0, none⟩ (.int .i64 0)).setCell ⟨w.heap.size + 1 + 1, 1, none⟩ (.int .i64 0)).setCell ⟨w.heap.size + 1 + 1, 2, none⟩ (.int .i64 0)) = Z at PZ DZ ⊢
      obtain ⟨p0, p1, p2⟩ := PZ
      exact bodyPost_ret (v := .tuple #[.agg #[.int .i64 0, .int .i64 0, .int .i64 0], .int .i64 2]) (by simp [results, Tryd.results21, go_sem, p0, p1, p2]) rfl ⟨rfl, DZ⟩
    · have hkk : k = bcode xa0_0 xa0_1 a1_0 a1_1 a1_2 (levOk a2) := by
        rw [hk]; unfold bcode
        by_cases hb : brOk xa0_0 xa0_1 a1_0 a1_1 a1_2
        · rw [if_pos hb, if_pos hb, if_neg (fun g => h1 ⟨hb, g.1⟩), if_neg (fun g => h1 ⟨hb, g⟩)]
        · rw [if_neg hb, if_neg hb]
      have hn := bcode_n h1
      rw [← hkk] at hn
      have hn0 : (k == 0) = false := by simpa using hn
      have HK := Lib.hid hkk
      clear h h1 hk hkk
      go_enter Tryd.func21, Tryd.ntmps21
      go_wp2_with (first | (go_at_call 46; refine (l12Code_any _ a0_0 la0_0 ca0_0 xa0_0 a0_1 la0_1 ca0_1 xa0_1 a1_0 a1_1 a1_2 a2 _ (by first | omega | (simp; done) | (simp; omega)) ⟨by first | (simp; done) | go_simp, by first | (simp; done) | go_simp⟩ ha0_0 ha0_1 ((RA.out.below (by repeat (first | assumption | exact Below.refl _ _ | (refine Below.setCell ?_ (by first | omega | (simp; done) | (simp; omega)) _) | apply below_drewN | apply Below.drew | (refine Below.alloc ?_ (by first | omega | (simp; done) | (simp; omega)) _)))).mono (by first | omega | (simp; done) | (simp; omega))) ((RB.out.below (by repeat (first | assumption | exact Below.refl _ _ | (refine Below.setCell ?_ (by first | omega | (simp; done) | (simp; omega)) _) | apply below_drewN | apply Below.drew | (refine Below.alloc ?_ (by first | omega | (simp; done) | (simp; omega)) _)))).mono (by first | omega | (simp; done) | (simp; omega))) k HK.out).mono ?_; rintro e1 W1 ⟨rfl, b1⟩; have EE : Below (w.heap.size + 1 + 1 + 1) (((w.alloc (.cells #[.slice a0_0 la0_0 ca0_0, .slice a0_1 la0_1 ca0_1] 30)).alloc (.cells #[.int .i64 a1_0, .int .i64 a1_1, .int .i64 a1_2] 32)).alloc (.cells #[.int .i64 0, .int .i64 0, .int .i64 0] 32)) W1 := (by repeat (first | assumption | exact Below.refl _ _ | (refine Below.trans ?_ (b1.mono (by first | omega | (simp; done) | (simp; omega)))) | (refine Below.setCell ?_ (by first | omega | (simp; done) | (simp; omega)) _) | apply below_drewN | apply Below.drew | (refine Below.alloc ?_ (by first | omega | (simp; done) | (simp; omega)) _))); have s1 : w.heap.size + 1 + 1 < W1.heap.size := (by have := b1.size; (try simp at this); omega); have d1 : Below w.heap.size w W1 := (by repeat (first | assumption | exact Below.refl _ _ | (refine Below.trans ?_ (b1.mono (by first | omega | (simp; done) | (simp; omega)))) | (refine Below.setCell ?_ (by first | omega | (simp; done) | (simp; omega)) _) | apply below_drewN | apply Below.drew | (refine Below.alloc ?_ (by first | omega | (simp; done) | (simp; omega)) _))); obtain ⟨_, _, _, _, _, x0, x1, x2, f0, f1, f2⟩ := box3 EE; clear EE b1))
      have PZ := three_back (w := W1) (r := w.heap.size + 1 + 1) (v0 := .int .i64 0) (v1 := .int .i64 0) (v2 := .int .i64 0) x0 x1 x2
      have le9 : ∀ j, w.heap.size ≤ (⟨w.heap.size + 1 + 1, j, none⟩ : Addr).block := fun j => (show w.heap.size ≤ w.heap.size + 1 + 1 by omega)
      have DZ : Below w.heap.size w (((W1.setCell ⟨w.heap.size + 1 + 1, 0, none⟩ (.int .i64 0)).setCell ⟨w.heap.size + 1 + 1, 1, none⟩ (.int .i64 0)).setCell ⟨w.heap.size + 1 + 1, 2, none⟩ (.int .i64 0)) := (((d1).setCell (le9 0) _).setCell (le9 1) _).setCell (le9 2) _
      generalize (((W1.setCell ⟨w.heap.size + 1 + 1, 0, none⟩ (.int .i64 0)).setCell ⟨w.heap.size + 1 + 1, 1, none⟩ (.int .i64 0)).setCell ⟨w.heap.size + 1 + 1, 2, none⟩ (.int .i64 0)) = Z at PZ DZ ⊢
      obtain ⟨p0, p1, p2⟩ := PZ
      exact bodyPost_ret (v := .tuple #[.agg #[.int .i64 0, .int .i64 0, .int .i64 0], .int .i64 k]) (by simp [results, Tryd.results21, go_sem, p0, p1, p2]) rfl ⟨rfl, DZ⟩

set_option maxRecDepth 100000 in
set_option maxHeartbeats 3200000 in
theorem implC_StepBreach (a0_0 : Option Addr) (la0_0 ca0_0 : Nat) (xa0_0 : List Int) (a0_1 : Option Addr) (la0_1 ca0_1 : Nat) (xa0_1 : List Int) (a1_0 : Int) (a1_1 : Int) (a1_2 : Int) (a2 : Int) (a3 : Int) (w : World) (ha0_0 : la0_0 ≤ 1048576) (ra0_0 : Rd w w.heap.size a0_0 la0_0 xa0_0) (fa0_0 : Wf xa0_0) (ha0_1 : la0_1 ≤ 1048576) (ra0_1 : Rd w w.heap.size a0_1 la0_1 xa0_1) (fa0_1 : Wf xa0_1) (ha1_0 : (Lit.int .i64 a1_0).wf = true) (ha1_1 : (Lit.int .i64 a1_1).wf = true) (ha1_2 : (Lit.int .i64 a1_2).wf = true) (ha2 : (Lit.int .i64 a2).wf = true) (ha3 : (Lit.int .i64 a3).wf = true) (se0 se1 : Addr) (hsent : Sent w w.heap.size se0 se1) :
    Calls Tryd.prog 22 #[.agg #[.slice a0_0 la0_0 ca0_0, .slice a0_1 la0_1 ca0_1], .agg #[.int .i64 a1_0, .int .i64 a1_1, .int .i64 a1_2], .int .i64 a2, .int .i64 a3] w fun e w' => e = .returned (.tuple #[.agg #[.int .i64 (r0_StepBreach xa0_0 xa0_1 a1_0 a1_1 a1_2 a2 a3), .int .i64 (r1_StepBreach xa0_0 xa0_1 a1_0 a1_1 a1_2 a2 a3), .int .i64 (r2_StepBreach xa0_0 xa0_1 a1_0 a1_1 a1_2 a2 a3)], .int .i64 (r3_StepBreach xa0_0 xa0_1 a1_0 a1_1 a1_2 a2 a3)]) ∧ Below w.heap.size w w' := by
  have RA := Lib.hid ra0_0
  have RB := Lib.hid ra0_1
  clear ra0_0 ra0_1
  have HS := Lib.hid hsent
  clear hsent
  by_cases h : brOk xa0_0 xa0_1 a1_0 a1_1 a1_2 ∧ levOk a2 ∧ stoOk a3
  · obtain ⟨z0, e0⟩ : ∃ z, z = stW a1_0 (headN xa0_0 xa0_1 a1_1 a1_2 a2) a3 := ⟨_, rfl⟩
    obtain ⟨z2, e2⟩ : ∃ z, z = a1_2 + inflN xa0_0 xa0_1 a1_0 a1_1 a1_2 a2 := ⟨_, rfl⟩
    obtain ⟨cl, e3⟩ : ∃ z, z = 0 + cloN a1_0 (headN xa0_0 xa0_1 a1_1 a1_2 a2) a3 := ⟨_, rfl⟩
    obtain ⟨t, ht⟩ : ∃ t, t = true := ⟨_, rfl⟩
    rw [show r0_StepBreach xa0_0 xa0_1 a1_0 a1_1 a1_2 a2 a3 = z0 by rw [e0]; exact if_pos h, show r1_StepBreach xa0_0 xa0_1 a1_0 a1_1 a1_2 a2 a3 = a1_1 from if_pos h, show r2_StepBreach xa0_0 xa0_1 a1_0 a1_1 a1_2 a2 a3 = z2 by rw [e2]; exact if_pos h, show r3_StepBreach xa0_0 xa0_1 a1_0 a1_1 a1_2 a2 a3 = 0 from bcode_t h.1 h.2]
    have HB := Lib.hid h.1
    have HY := Lib.hid h.2.1
    have HO := Lib.hid h.2.2
    have HK := Lib.hid (bcode_t h.1 h.2).symm
    have HV := Lib.hid (show true = decide (levOk a2) from (decide_eq_true h.2.1).symm)
    have HT := Lib.hid (show t = decide (stoOk a3) from ht.trans (decide_eq_true h.2.2).symm)
    have HP := Lib.hid (show t = decide (levOk a2 ∧ stoOk a3) from ht.trans (decide_eq_true h.2).symm)
    have E0 := Lib.hid e0
    have E2' := Lib.hid e2
    have E3 := Lib.hid e3
    clear h e0 e2 e3 ht
    go_enter Tryd.func22, Tryd.ntmps22
    go_wp2_with fail
    refine wp_region_held_drew (S := fun w' => w'.cell? ⟨w.heap.size, 0, none⟩ = some (.slice a0_0 la0_0 ca0_0) ∧ w'.cell? ⟨w.heap.size, 1, none⟩ = some (.slice a0_1 la0_1 ca0_1) ∧ w'.cell? ⟨w.heap.size + 1, 0, none⟩ = some (.int .i64 a1_0) ∧ w'.cell? ⟨w.heap.size + 1, 1, none⟩ = some (.int .i64 a1_1) ∧ w'.cell? ⟨w.heap.size + 1, 2, none⟩ = some (.int .i64 a1_2)) (by kernel_rfl) ⟨by first | (simp; done) | go_simp, by first | (simp; done) | go_simp, by first | (simp; done) | go_simp, by first | (simp; done) | go_simp, by first | (simp; done) | go_simp⟩ (fun hHeld => ?_)
    ((refine wpAnyH_take (i := 0) (oi := ⟨some 12, _, _, _, _, _⟩) (v := ?_) rfl (by kernel_rfl) (by kernel_rfl) (by kernel_rfl) (fun _ _ _ h => h) (Or.inl ⟨by rfl, ?_⟩) (by assumption) ?_; rotate_left 1; (focus (intro w hSw; (try dsimp only at hSw); go_simp <;> try (first | (with_reducible rfl) | (rw [if_neg (by omega)]) | (rw [if_pos (by omega)])))); try simp only [Act.put, List.setIfInBounds_toArray, List.set_cons_zero, List.set_cons_succ]); (refine wpAnyH_take (i := 1) (oi := ⟨some 13, _, _, _, _, _⟩) (v := ?_) rfl (by kernel_rfl) (by kernel_rfl) (by kernel_rfl) (fun _ _ _ h => h) (Or.inl ⟨by rfl, ?_⟩) (by assumption) ?_; rotate_left 1; (focus (intro w hSw; (try dsimp only at hSw); go_simp <;> try (first | (with_reducible rfl) | (rw [if_neg (by omega)]) | (rw [if_pos (by omega)])))); try simp only [Act.put, List.setIfInBounds_toArray, List.set_cons_zero, List.set_cons_succ]); (refine wpAnyH_take (i := 2) (oi := ⟨some 14, _, _, _, _, _⟩) (v := ?_) rfl (by kernel_rfl) (by kernel_rfl) (by kernel_rfl) (fun _ _ _ h => h) (Or.inl ⟨by rfl, ?_⟩) (by assumption) ?_; rotate_left 1; (focus (intro w hSw; (try dsimp only at hSw); go_simp <;> try (first | (with_reducible rfl) | (rw [if_neg (by omega)]) | (rw [if_pos (by omega)])))); try simp only [Act.put, List.setIfInBounds_toArray, List.set_cons_zero, List.set_cons_succ]))
    (refine wpAnyH_ready (rs := [3]) (by kernel_rfl) (by simp) ?_; refine AllReadyH.cons rfl (fun K hK => ?_) AllReadyH.nil; go_simp)
    refine (vlI_any a2 _ true HV.out).mono ?_
    rintro e0v V0 ⟨rfl, rfl⟩
    have q0 := hHeld
    clear hHeld
    (refine hK.out _ _ ?_ (fun hHeld => ?_))
    · exact q0
    clear hK K
    ((refine wpAnyH_take (i := 4) (oi := ⟨some 16, _, _, _, _, _⟩) (v := ?_) rfl (by kernel_rfl) (by kernel_rfl) (by kernel_rfl) (fun _ _ _ h => h) (Or.inl ⟨by rfl, ?_⟩) (by assumption) ?_; rotate_left 1; (focus (intro w hSw; (try dsimp only at hSw); go_simp <;> try (first | (with_reducible rfl) | (rw [if_neg (by omega)]) | (rw [if_pos (by omega)])))); try simp only [Act.put, List.setIfInBounds_toArray, List.set_cons_zero, List.set_cons_succ]); (refine wpAnyH_take (i := 5) (oi := ⟨some 17, _, _, _, _, _⟩) (v := ?_) rfl (by kernel_rfl) (by kernel_rfl) (by kernel_rfl) (fun _ _ _ h => h) (Or.inl ⟨by rfl, ?_⟩) (by assumption) ?_; rotate_left 1; (focus (intro w hSw; (try dsimp only at hSw); go_simp <;> try (first | (with_reducible rfl) | (rw [if_neg (by omega)]) | (rw [if_pos (by omega)])))); try simp only [Act.put, List.setIfInBounds_toArray, List.set_cons_zero, List.set_cons_succ]))
    refine wpAnyH_ready (rs := [6]) (by kernel_rfl) (by simp) ?_
    refine AllReadyH.cons (o := ⟨some 18, _, _, _, _, _⟩) rfl (fun K hK => ?_) AllReadyH.nil
    go_simp
    clear hHeld
    (refine hK.out _ _ ?_ (fun hHeld => ?_))
    · exact ⟨by first | (simp; done) | go_simp, by first | (simp; done) | go_simp, by first | (simp; done) | go_simp, by first | (simp; done) | go_simp, by first | (simp; done) | go_simp⟩
    clear hK K
    try simp only [Act.put, List.setIfInBounds_toArray, List.set_cons_zero, List.set_cons_succ]
    (refine wpAnyH_ready (rs := [7]) (by kernel_rfl) (by simp) ?_; refine AllReadyH.cons rfl (fun K hK => ?_) AllReadyH.nil; go_simp)
    refine (thI_one _ a3 _ (by simp) (by first | (simp; done) | go_simp) t HT.out).mono ?_
    rintro e1v V1 ⟨rfl, B1⟩
    have q1_0 := (B1.cell (p := ⟨w.heap.size, 0, none⟩) (by first | omega | (simp; done) | (simp; omega))).trans hHeld.1
    have q1_1 := (B1.cell (p := ⟨w.heap.size, 1, none⟩) (by first | omega | (simp; done) | (simp; omega))).trans hHeld.2.1
    have q1_2 := (B1.cell (p := ⟨w.heap.size + 1, 0, none⟩) (by first | omega | (simp; done) | (simp; omega))).trans hHeld.2.2.1
    have q1_3 := (B1.cell (p := ⟨w.heap.size + 1, 1, none⟩) (by first | omega | (simp; done) | (simp; omega))).trans hHeld.2.2.2.1
    have q1_4 := (B1.cell (p := ⟨w.heap.size + 1, 2, none⟩) (by first | omega | (simp; done) | (simp; omega))).trans hHeld.2.2.2.2
    have G1 : w.heap.size + 1 + 1 + 1 < V1.heap.size := (by have := B1.size; (try simp at this); omega)
    have E1 : Below (w.heap.size + 1 + 1 + 1) (((w.alloc (.cells #[.slice a0_0 la0_0 ca0_0, .slice a0_1 la0_1 ca0_1] 30)).alloc (.cells #[.int .i64 a1_0, .int .i64 a1_1, .int .i64 a1_2] 32)).alloc (.cells #[.int .i64 0, .int .i64 0, .int .i64 0] 32)) V1 := (by repeat (first | assumption | exact Below.refl _ _ | (refine Below.trans ?_ (B1.mono (by first | omega | (simp; done) | (simp; omega)))) | (refine Below.setCell ?_ (by first | omega | (simp; done) | (simp; omega)) _) | apply below_drewN | apply Below.drew | (refine Below.alloc ?_ (by first | omega | (simp; done) | (simp; omega)) _)))
    have D1 : Below w.heap.size w V1 := (by repeat (first | assumption | exact Below.refl _ _ | (refine Below.trans ?_ (B1.mono (by first | omega | (simp; done) | (simp; omega)))) | (refine Below.setCell ?_ (by first | omega | (simp; done) | (simp; omega)) _) | apply below_drewN | apply Below.drew | (refine Below.alloc ?_ (by first | omega | (simp; done) | (simp; omega)) _)))
    clear hHeld
    (refine hK.out _ _ ?_ (fun hHeld => ?_))
    · exact ⟨q1_0, q1_1, q1_2, q1_3, q1_4⟩
    clear hK K
    ((refine wpAnyH_take (i := 8) (oi := ⟨some 20, _, _, _, _, _⟩) (v := ?_) rfl (by kernel_rfl) (by kernel_rfl) (by kernel_rfl) (fun _ _ _ h => h) (Or.inl ⟨by rfl, ?_⟩) (by assumption) ?_; rotate_left 1; (focus (intro w hSw; (try dsimp only at hSw); go_simp <;> try (first | (with_reducible rfl) | (rw [if_neg (by omega)]) | (rw [if_pos (by omega)])))); try simp only [Act.put, List.setIfInBounds_toArray, List.set_cons_zero, List.set_cons_succ]))
    (refine wpAnyH_ready (rs := [9]) (by kernel_rfl) (by simp) ?_; refine AllReadyH.cons rfl (fun K hK => ?_) AllReadyH.nil; go_simp)
    refine (bcI_any a0_0 la0_0 ca0_0 xa0_0 a0_1 la0_1 ca0_1 xa0_1 a1_0 a1_1 a1_2 t _ ha0_0 ha0_1 ((RA.out.below (by repeat (first | assumption | exact Below.refl _ _ | (refine Below.trans ?_ (D1.mono (by first | omega | (simp; done) | (simp; omega)))) | (refine Below.setCell ?_ (by first | omega | (simp; done) | (simp; omega)) _) | apply below_drewN | apply Below.drew | (refine Below.alloc ?_ (by first | omega | (simp; done) | (simp; omega)) _)))).mono (by first | omega | (simp; done) | (simp; omega))) ((RB.out.below (by repeat (first | assumption | exact Below.refl _ _ | (refine Below.trans ?_ (D1.mono (by first | omega | (simp; done) | (simp; omega)))) | (refine Below.setCell ?_ (by first | omega | (simp; done) | (simp; omega)) _) | apply below_drewN | apply Below.drew | (refine Below.alloc ?_ (by first | omega | (simp; done) | (simp; omega)) _)))).mono (by first | omega | (simp; done) | (simp; omega))) (levOk a2 ∧ stoOk a3) HP.out 0 HK.out).mono ?_
    rintro e2v V2 ⟨rfl, B2⟩
    have q2_0 := (B2.cell (p := ⟨w.heap.size, 0, none⟩) (by first | omega | (simp; done) | (simp; omega))).trans hHeld.1
    have q2_1 := (B2.cell (p := ⟨w.heap.size, 1, none⟩) (by first | omega | (simp; done) | (simp; omega))).trans hHeld.2.1
    have q2_2 := (B2.cell (p := ⟨w.heap.size + 1, 0, none⟩) (by first | omega | (simp; done) | (simp; omega))).trans hHeld.2.2.1
    have q2_3 := (B2.cell (p := ⟨w.heap.size + 1, 1, none⟩) (by first | omega | (simp; done) | (simp; omega))).trans hHeld.2.2.2.1
    have q2_4 := (B2.cell (p := ⟨w.heap.size + 1, 2, none⟩) (by first | omega | (simp; done) | (simp; omega))).trans hHeld.2.2.2.2
    have G2 : w.heap.size + 1 + 1 < V2.heap.size := (by have := B2.size; (try simp at this); omega)
    have E2 : Below (w.heap.size + 1 + 1 + 1) (((w.alloc (.cells #[.slice a0_0 la0_0 ca0_0, .slice a0_1 la0_1 ca0_1] 30)).alloc (.cells #[.int .i64 a1_0, .int .i64 a1_1, .int .i64 a1_2] 32)).alloc (.cells #[.int .i64 0, .int .i64 0, .int .i64 0] 32)) V2 := E1.trans (B2.mono (by first | omega | (simp; done) | (simp; omega)))
    have D2 : Below w.heap.size w V2 := D1.trans (B2.mono (by first | omega | (simp; done) | (simp; omega)))
    clear hHeld
    (refine hK.out _ _ ?_ (fun hHeld => ?_))
    · exact ⟨q2_0, q2_1, q2_2, q2_3, q2_4⟩
    clear hK K
    ((refine wpAnyH_take (i := 10) (oi := ⟨some 10, _, _, _, _, _⟩) (v := ?_) rfl (by kernel_rfl) (by kernel_rfl) (by kernel_rfl) (fun _ _ _ h => h) (Or.inl ⟨by rfl, ?_⟩) (by assumption) ?_; rotate_left 1; (focus (intro w hSw; (try dsimp only at hSw); go_simp <;> try (first | (with_reducible rfl) | (rw [if_neg (by omega)]) | (rw [if_pos (by omega)])))); try simp only [Act.put, List.setIfInBounds_toArray, List.set_cons_zero, List.set_cons_succ]))
    refine wpAnyH_done (by kernel_rfl) ?_ _
    obtain ⟨_, _, _, _, _, x0, x1, x2, f0, f1, f2⟩ := box3 E2
    have D2H := Lib.hid D2
    have X2 := Lib.hid (show V2.cell? ⟨w.heap.size + 1 + 1, 0, none⟩ = some (.int .i64 0) ∧ V2.cell? ⟨w.heap.size + 1 + 1, 1, none⟩ = some (.int .i64 0) ∧ V2.cell? ⟨w.heap.size + 1 + 1, 2, none⟩ = some (.int .i64 0) ∧ V2.frozen? ⟨w.heap.size + 1 + 1, 0, none⟩ = false ∧ V2.frozen? ⟨w.heap.size + 1 + 1, 1, none⟩ = false ∧ V2.frozen? ⟨w.heap.size + 1 + 1, 2, none⟩ = false from ⟨x0, x1, x2, f0, f1, f2⟩)
    clear E2 E1 B1 B2 D1 D2 x0 x1 x2 f0 f1 f2
    go_wp2_with fail
    refine (pw_e a0_0 la0_0 ca0_0 a0_1 la0_1 ca0_1 a1_0 a1_1 a1_2 a3 (some ⟨V2.heap.size, 0, none⟩) 1 1 _ (by omega)).mono ?_
    rintro e3 W3 ⟨tb, rfl, b3, tb1, tb2, hst⟩
    have s3 : V2.heap.size < W3.heap.size := (by have := b3.size; (try simp at this); omega)
    have c3 : W3.cell? ⟨V2.heap.size, 0, none⟩ = some (.int .i64 a2) := (b3.cell (p := ⟨V2.heap.size, 0, none⟩) (by first | omega | (simp; done) | (simp; omega))).trans (by first | (simp; done) | go_simp)
    have B3H := Lib.hid (show Below V2.heap.size V2 W3 from (by repeat (first | assumption | exact Below.refl _ _ | (refine Below.trans ?_ (b3.mono (by first | omega | (simp; done) | (simp; omega)))) | (refine Below.setCell ?_ (by first | omega | (simp; done) | (simp; omega)) _) | apply below_drewN | apply Below.drew | (refine Below.alloc ?_ (by first | omega | (simp; done) | (simp; omega)) _))))
    have D3H := Lib.hid (show Below w.heap.size w W3 from D2H.out.trans (B3H.out.mono (by omega)))
    have hst0 := hst 0 (by omega)
    clear b3 hst
    go_wp2_with fail
    have PN := PBox.new W3 a1_0 a1_1 a1_2 0 0 a0_0 la0_0 ca0_0 a0_1 la0_1 ca0_1 (.slice (some ⟨V2.heap.size, 0, none⟩) 1 1) (.slice (some ⟨tb, 0, none⟩) 1 1)
    have A3 : Below W3.heap.size W3 (W3.alloc (.cells #[.int .i64 a1_0, .int .i64 a1_1, .int .i64 a1_2, .slice a0_0 la0_0 ca0_0, .slice a0_1 la0_1 ca0_1, .slice (some ⟨V2.heap.size, 0, none⟩) 1 1, .slice (some ⟨tb, 0, none⟩) 1 1, .int .i64 0, .int .i64 0] 62)) := Below.alloc (Below.refl _ _) (Nat.le_refl _) _
    have D4 := D3H.out.trans (A3.mono (show w.heap.size ≤ W3.heap.size by omega))
    refine (pass_t W3.heap.size a0_0 la0_0 ca0_0 xa0_0 a0_1 la0_1 ca0_1 xa0_1 a1_0 a1_1 a1_2 0 (some ⟨V2.heap.size, 0, none⟩) 1 1 (some ⟨tb, 0, none⟩) 1 1 0 a2 a3 _ PN ha0_0 ha0_1 ((RA.out.below D4).mono (by omega)) ((RB.out.below D4).mono (by omega)) HB.out HY.out HO.out (by omega) (by omega) (by omega) (by omega) ⟨_, _, rfl, s3, (A3.cell (p := ⟨V2.heap.size, 0 + 0, none⟩) s3).trans c3⟩ ⟨_, _, rfl, tb1, (A3.cell (p := ⟨tb, 0 + 0, none⟩) tb1).trans hst0⟩ (by omega) z0 z2 cl E0.out E2'.out E3.out se0 se1 ((HS.out.below D4).mono (by omega))).mono ?_
    rintro e5 W5 ⟨rfl, ch, pb⟩
    have B5H := Lib.hid (show Below W3.heap.size W3 W5 from A3.trans (ch.below (Nat.le_refl _) (by simp)))
    have D5H := Lib.hid (show Below w.heap.size w W5 from D3H.out.trans (B5H.out.mono (by omega)))
    have X5 := Lib.hid (show Below V2.heap.size V2 W5 from B3H.out.trans (B5H.out.mono (by omega)))
    obtain ⟨g0, g1, g2, g3, g4, g5⟩ := X2.out
    have x0 := (X5.out.cell (p := ⟨w.heap.size + 1 + 1, 0, none⟩) G2).trans g0
    have x1 := (X5.out.cell (p := ⟨w.heap.size + 1 + 1, 1, none⟩) G2).trans g1
    have x2 := (X5.out.cell (p := ⟨w.heap.size + 1 + 1, 2, none⟩) G2).trans g2
    have f0 := (X5.out.frozen (p := ⟨w.heap.size + 1 + 1, 0, none⟩) G2).trans g3
    have f1 := (X5.out.frozen (p := ⟨w.heap.size + 1 + 1, 1, none⟩) G2).trans g4
    have f2 := (X5.out.frozen (p := ⟨w.heap.size + 1 + 1, 2, none⟩) G2).trans g5
    obtain ⟨s5, ⟨y0, y1, y2, _⟩, _⟩ := pb
    clear g0 g1 g2 g3 g4 g5 PN A3 D4 ch c3 hst0
    go_wp2
    have PZ := three_back (w := W5) (r := w.heap.size + 1 + 1) (v0 := .int .i64 z0) (v1 := .int .i64 a1_1) (v2 := .int .i64 z2) x0 x1 x2
    have le9 : ∀ j, w.heap.size ≤ (⟨w.heap.size + 1 + 1, j, none⟩ : Addr).block := fun j => (show w.heap.size ≤ w.heap.size + 1 + 1 by omega)
    have DZ : Below w.heap.size w (((W5.setCell ⟨w.heap.size + 1 + 1, 0, none⟩ (.int .i64 z0)).setCell ⟨w.heap.size + 1 + 1, 1, none⟩ (.int .i64 a1_1)).setCell ⟨w.heap.size + 1 + 1, 2, none⟩ (.int .i64 z2)) := (((D5H.out).setCell (le9 0) _).setCell (le9 1) _).setCell (le9 2) _
    generalize (((W5.setCell ⟨w.heap.size + 1 + 1, 0, none⟩ (.int .i64 z0)).setCell ⟨w.heap.size + 1 + 1, 1, none⟩ (.int .i64 a1_1)).setCell ⟨w.heap.size + 1 + 1, 2, none⟩ (.int .i64 z2)) = Z at PZ DZ ⊢
    obtain ⟨p0, p1, p2⟩ := PZ
    exact bodyPost_ret (v := .tuple #[.agg #[.int .i64 z0, .int .i64 a1_1, .int .i64 z2], .int .i64 0]) (by simp [results, Tryd.results22, go_sem, p0, p1, p2]) rfl ⟨rfl, DZ⟩
  · rw [show r0_StepBreach xa0_0 xa0_1 a1_0 a1_1 a1_2 a2 a3 = 0 from if_neg h, show r1_StepBreach xa0_0 xa0_1 a1_0 a1_1 a1_2 a2 a3 = 0 from if_neg h, show r2_StepBreach xa0_0 xa0_1 a1_0 a1_1 a1_2 a2 a3 = 0 from if_neg h]
    obtain ⟨k, hk⟩ : ∃ k, k = r3_StepBreach xa0_0 xa0_1 a1_0 a1_1 a1_2 a2 a3 := ⟨_, rfl⟩
    rw [← hk]
    unfold r3_StepBreach at hk
    have hn := bcode_n h
    rw [← hk] at hn
    have HK := Lib.hid hk
    by_cases h1 : levOk a2
    · obtain ⟨t, ht⟩ : ∃ t, t = decide (stoOk a3) := ⟨_, rfl⟩
      have HT := Lib.hid ht
      have HV := Lib.hid (show true = decide (levOk a2) from (decide_eq_true h1).symm)
      have HP := Lib.hid (show t = decide (levOk a2 ∧ stoOk a3) by rw [ht]; exact decide_eq_decide.2 ⟨fun g => ⟨h1, g⟩, fun g => g.2⟩)
      clear h h1 hk ht
      go_enter Tryd.func22, Tryd.ntmps22
      go_wp2_with fail
      refine wp_region_held_drew (S := fun w' => w'.cell? ⟨w.heap.size, 0, none⟩ = some (.slice a0_0 la0_0 ca0_0) ∧ w'.cell? ⟨w.heap.size, 1, none⟩ = some (.slice a0_1 la0_1 ca0_1) ∧ w'.cell? ⟨w.heap.size + 1, 0, none⟩ = some (.int .i64 a1_0) ∧ w'.cell? ⟨w.heap.size + 1, 1, none⟩ = some (.int .i64 a1_1) ∧ w'.cell? ⟨w.heap.size + 1, 2, none⟩ = some (.int .i64 a1_2)) (by kernel_rfl) ⟨by first | (simp; done) | go_simp, by first | (simp; done) | go_simp, by first | (simp; done) | go_simp, by first | (simp; done) | go_simp, by first | (simp; done) | go_simp⟩ (fun hHeld => ?_)
      ((refine wpAnyH_take (i := 0) (oi := ⟨some 12, _, _, _, _, _⟩) (v := ?_) rfl (by kernel_rfl) (by kernel_rfl) (by kernel_rfl) (fun _ _ _ h => h) (Or.inl ⟨by rfl, ?_⟩) (by assumption) ?_; rotate_left 1; (focus (intro w hSw; (try dsimp only at hSw); go_simp <;> try (first | (with_reducible rfl) | (rw [if_neg (by omega)]) | (rw [if_pos (by omega)])))); try simp only [Act.put, List.setIfInBounds_toArray, List.set_cons_zero, List.set_cons_succ]); (refine wpAnyH_take (i := 1) (oi := ⟨some 13, _, _, _, _, _⟩) (v := ?_) rfl (by kernel_rfl) (by kernel_rfl) (by kernel_rfl) (fun _ _ _ h => h) (Or.inl ⟨by rfl, ?_⟩) (by assumption) ?_; rotate_left 1; (focus (intro w hSw; (try dsimp only at hSw); go_simp <;> try (first | (with_reducible rfl) | (rw [if_neg (by omega)]) | (rw [if_pos (by omega)])))); try simp only [Act.put, List.setIfInBounds_toArray, List.set_cons_zero, List.set_cons_succ]); (refine wpAnyH_take (i := 2) (oi := ⟨some 14, _, _, _, _, _⟩) (v := ?_) rfl (by kernel_rfl) (by kernel_rfl) (by kernel_rfl) (fun _ _ _ h => h) (Or.inl ⟨by rfl, ?_⟩) (by assumption) ?_; rotate_left 1; (focus (intro w hSw; (try dsimp only at hSw); go_simp <;> try (first | (with_reducible rfl) | (rw [if_neg (by omega)]) | (rw [if_pos (by omega)])))); try simp only [Act.put, List.setIfInBounds_toArray, List.set_cons_zero, List.set_cons_succ]))
      (refine wpAnyH_ready (rs := [3]) (by kernel_rfl) (by simp) ?_; refine AllReadyH.cons rfl (fun K hK => ?_) AllReadyH.nil; go_simp)
      refine (vlI_any a2 _ true HV.out).mono ?_
      rintro e0v V0 ⟨rfl, rfl⟩
      have q0 := hHeld
      clear hHeld
      (refine hK.out _ _ ?_ (fun hHeld => ?_))
      · exact q0
      clear hK K
      ((refine wpAnyH_take (i := 4) (oi := ⟨some 16, _, _, _, _, _⟩) (v := ?_) rfl (by kernel_rfl) (by kernel_rfl) (by kernel_rfl) (fun _ _ _ h => h) (Or.inl ⟨by rfl, ?_⟩) (by assumption) ?_; rotate_left 1; (focus (intro w hSw; (try dsimp only at hSw); go_simp <;> try (first | (with_reducible rfl) | (rw [if_neg (by omega)]) | (rw [if_pos (by omega)])))); try simp only [Act.put, List.setIfInBounds_toArray, List.set_cons_zero, List.set_cons_succ]); (refine wpAnyH_take (i := 5) (oi := ⟨some 17, _, _, _, _, _⟩) (v := ?_) rfl (by kernel_rfl) (by kernel_rfl) (by kernel_rfl) (fun _ _ _ h => h) (Or.inl ⟨by rfl, ?_⟩) (by assumption) ?_; rotate_left 1; (focus (intro w hSw; (try dsimp only at hSw); go_simp <;> try (first | (with_reducible rfl) | (rw [if_neg (by omega)]) | (rw [if_pos (by omega)])))); try simp only [Act.put, List.setIfInBounds_toArray, List.set_cons_zero, List.set_cons_succ]))
      refine wpAnyH_ready (rs := [6]) (by kernel_rfl) (by simp) ?_
      refine AllReadyH.cons (o := ⟨some 18, _, _, _, _, _⟩) rfl (fun K hK => ?_) AllReadyH.nil
      go_simp
      clear hHeld
      (refine hK.out _ _ ?_ (fun hHeld => ?_))
      · exact ⟨by first | (simp; done) | go_simp, by first | (simp; done) | go_simp, by first | (simp; done) | go_simp, by first | (simp; done) | go_simp, by first | (simp; done) | go_simp⟩
      clear hK K
      try simp only [Act.put, List.setIfInBounds_toArray, List.set_cons_zero, List.set_cons_succ]
      (refine wpAnyH_ready (rs := [7]) (by kernel_rfl) (by simp) ?_; refine AllReadyH.cons rfl (fun K hK => ?_) AllReadyH.nil; go_simp)
      refine (thI_one _ a3 _ (by simp) (by first | (simp; done) | go_simp) t HT.out).mono ?_
      rintro e1v V1 ⟨rfl, B1⟩
      have q1_0 := (B1.cell (p := ⟨w.heap.size, 0, none⟩) (by first | omega | (simp; done) | (simp; omega))).trans hHeld.1
      have q1_1 := (B1.cell (p := ⟨w.heap.size, 1, none⟩) (by first | omega | (simp; done) | (simp; omega))).trans hHeld.2.1
      have q1_2 := (B1.cell (p := ⟨w.heap.size + 1, 0, none⟩) (by first | omega | (simp; done) | (simp; omega))).trans hHeld.2.2.1
      have q1_3 := (B1.cell (p := ⟨w.heap.size + 1, 1, none⟩) (by first | omega | (simp; done) | (simp; omega))).trans hHeld.2.2.2.1
      have q1_4 := (B1.cell (p := ⟨w.heap.size + 1, 2, none⟩) (by first | omega | (simp; done) | (simp; omega))).trans hHeld.2.2.2.2
      have G1 : w.heap.size + 1 + 1 + 1 < V1.heap.size := (by have := B1.size; (try simp at this); omega)
      have E1 : Below (w.heap.size + 1 + 1 + 1) (((w.alloc (.cells #[.slice a0_0 la0_0 ca0_0, .slice a0_1 la0_1 ca0_1] 30)).alloc (.cells #[.int .i64 a1_0, .int .i64 a1_1, .int .i64 a1_2] 32)).alloc (.cells #[.int .i64 0, .int .i64 0, .int .i64 0] 32)) V1 := (by repeat (first | assumption | exact Below.refl _ _ | (refine Below.trans ?_ (B1.mono (by first | omega | (simp; done) | (simp; omega)))) | (refine Below.setCell ?_ (by first | omega | (simp; done) | (simp; omega)) _) | apply below_drewN | apply Below.drew | (refine Below.alloc ?_ (by first | omega | (simp; done) | (simp; omega)) _)))
      have D1 : Below w.heap.size w V1 := (by repeat (first | assumption | exact Below.refl _ _ | (refine Below.trans ?_ (B1.mono (by first | omega | (simp; done) | (simp; omega)))) | (refine Below.setCell ?_ (by first | omega | (simp; done) | (simp; omega)) _) | apply below_drewN | apply Below.drew | (refine Below.alloc ?_ (by first | omega | (simp; done) | (simp; omega)) _)))
      clear hHeld
      (refine hK.out _ _ ?_ (fun hHeld => ?_))
      · exact ⟨q1_0, q1_1, q1_2, q1_3, q1_4⟩
      clear hK K
      ((refine wpAnyH_take (i := 8) (oi := ⟨some 20, _, _, _, _, _⟩) (v := ?_) rfl (by kernel_rfl) (by kernel_rfl) (by kernel_rfl) (fun _ _ _ h => h) (Or.inl ⟨by rfl, ?_⟩) (by assumption) ?_; rotate_left 1; (focus (intro w hSw; (try dsimp only at hSw); go_simp <;> try (first | (with_reducible rfl) | (rw [if_neg (by omega)]) | (rw [if_pos (by omega)])))); try simp only [Act.put, List.setIfInBounds_toArray, List.set_cons_zero, List.set_cons_succ]))
      (refine wpAnyH_ready (rs := [9]) (by kernel_rfl) (by simp) ?_; refine AllReadyH.cons rfl (fun K hK => ?_) AllReadyH.nil; go_simp)
      refine (bcI_any a0_0 la0_0 ca0_0 xa0_0 a0_1 la0_1 ca0_1 xa0_1 a1_0 a1_1 a1_2 t _ ha0_0 ha0_1 ((RA.out.below (by repeat (first | assumption | exact Below.refl _ _ | (refine Below.trans ?_ (D1.mono (by first | omega | (simp; done) | (simp; omega)))) | (refine Below.setCell ?_ (by first | omega | (simp; done) | (simp; omega)) _) | apply below_drewN | apply Below.drew | (refine Below.alloc ?_ (by first | omega | (simp; done) | (simp; omega)) _)))).mono (by first | omega | (simp; done) | (simp; omega))) ((RB.out.below (by repeat (first | assumption | exact Below.refl _ _ | (refine Below.trans ?_ (D1.mono (by first | omega | (simp; done) | (simp; omega)))) | (refine Below.setCell ?_ (by first | omega | (simp; done) | (simp; omega)) _) | apply below_drewN | apply Below.drew | (refine Below.alloc ?_ (by first | omega | (simp; done) | (simp; omega)) _)))).mono (by first | omega | (simp; done) | (simp; omega))) (levOk a2 ∧ stoOk a3) HP.out k HK.out).mono ?_
      rintro e2v V2 ⟨rfl, B2⟩
      have q2_0 := (B2.cell (p := ⟨w.heap.size, 0, none⟩) (by first | omega | (simp; done) | (simp; omega))).trans hHeld.1
      have q2_1 := (B2.cell (p := ⟨w.heap.size, 1, none⟩) (by first | omega | (simp; done) | (simp; omega))).trans hHeld.2.1
      have q2_2 := (B2.cell (p := ⟨w.heap.size + 1, 0, none⟩) (by first | omega | (simp; done) | (simp; omega))).trans hHeld.2.2.1
      have q2_3 := (B2.cell (p := ⟨w.heap.size + 1, 1, none⟩) (by first | omega | (simp; done) | (simp; omega))).trans hHeld.2.2.2.1
      have q2_4 := (B2.cell (p := ⟨w.heap.size + 1, 2, none⟩) (by first | omega | (simp; done) | (simp; omega))).trans hHeld.2.2.2.2
      have G2 : w.heap.size + 1 + 1 < V2.heap.size := (by have := B2.size; (try simp at this); omega)
      have E2 : Below (w.heap.size + 1 + 1 + 1) (((w.alloc (.cells #[.slice a0_0 la0_0 ca0_0, .slice a0_1 la0_1 ca0_1] 30)).alloc (.cells #[.int .i64 a1_0, .int .i64 a1_1, .int .i64 a1_2] 32)).alloc (.cells #[.int .i64 0, .int .i64 0, .int .i64 0] 32)) V2 := E1.trans (B2.mono (by first | omega | (simp; done) | (simp; omega)))
      have D2 : Below w.heap.size w V2 := D1.trans (B2.mono (by first | omega | (simp; done) | (simp; omega)))
      clear hHeld
      (refine hK.out _ _ ?_ (fun hHeld => ?_))
      · exact ⟨q2_0, q2_1, q2_2, q2_3, q2_4⟩
      clear hK K
      ((refine wpAnyH_take (i := 10) (oi := ⟨some 10, _, _, _, _, _⟩) (v := ?_) rfl (by kernel_rfl) (by kernel_rfl) (by kernel_rfl) (fun _ _ _ h => h) (Or.inl ⟨by rfl, ?_⟩) (by assumption) ?_; rotate_left 1; (focus (intro w hSw; (try dsimp only at hSw); go_simp <;> try (first | (with_reducible rfl) | (rw [if_neg (by omega)]) | (rw [if_pos (by omega)])))); try simp only [Act.put, List.setIfInBounds_toArray, List.set_cons_zero, List.set_cons_succ]))
      refine wpAnyH_done (by kernel_rfl) ?_ _
      obtain ⟨_, _, _, _, _, x0, x1, x2, f0, f1, f2⟩ := box3 E2
      have d1 := D2
      clear E2 E1 B1 B2 D1 D2
      go_wp2
      have PZ := three_back (w := V2) (r := w.heap.size + 1 + 1) (v0 := .int .i64 0) (v1 := .int .i64 0) (v2 := .int .i64 0) x0 x1 x2
      have le9 : ∀ j, w.heap.size ≤ (⟨w.heap.size + 1 + 1, j, none⟩ : Addr).block := fun j => (show w.heap.size ≤ w.heap.size + 1 + 1 by omega)
      have DZ : Below w.heap.size w (((V2.setCell ⟨w.heap.size + 1 + 1, 0, none⟩ (.int .i64 0)).setCell ⟨w.heap.size + 1 + 1, 1, none⟩ (.int .i64 0)).setCell ⟨w.heap.size + 1 + 1, 2, none⟩ (.int .i64 0)) := (((d1).setCell (le9 0) _).setCell (le9 1) _).setCell (le9 2) _
      generalize (((V2.setCell ⟨w.heap.size + 1 + 1, 0, none⟩ (.int .i64 0)).setCell ⟨w.heap.size + 1 + 1, 1, none⟩ (.int .i64 0)).setCell ⟨w.heap.size + 1 + 1, 2, none⟩ (.int .i64 0)) = Z at PZ DZ ⊢
      obtain ⟨p0, p1, p2⟩ := PZ
      exact bodyPost_ret (v := .tuple #[.agg #[.int .i64 0, .int .i64 0, .int .i64 0], .int .i64 k]) (by simp [results, Tryd.results22, go_sem, p0, p1, p2]) rfl ⟨rfl, DZ⟩
    · have HV := Lib.hid (show false = decide (levOk a2) from (decide_eq_false h1).symm)
      have HP := Lib.hid (show false = decide (levOk a2 ∧ stoOk a3) from (decide_eq_false (fun g => h1 g.1)).symm)
      clear h h1 hk
      go_enter Tryd.func22, Tryd.ntmps22
      go_wp2_with fail
      refine wp_region_held_drew (S := fun w' => w'.cell? ⟨w.heap.size, 0, none⟩ = some (.slice a0_0 la0_0 ca0_0) ∧ w'.cell? ⟨w.heap.size, 1, none⟩ = some (.slice a0_1 la0_1 ca0_1) ∧ w'.cell? ⟨w.heap.size + 1, 0, none⟩ = some (.int .i64 a1_0) ∧ w'.cell? ⟨w.heap.size + 1, 1, none⟩ = some (.int .i64 a1_1) ∧ w'.cell? ⟨w.heap.size + 1, 2, none⟩ = some (.int .i64 a1_2)) (by kernel_rfl) ⟨by first | (simp; done) | go_simp, by first | (simp; done) | go_simp, by first | (simp; done) | go_simp, by first | (simp; done) | go_simp, by first | (simp; done) | go_simp⟩ (fun hHeld => ?_)
      ((refine wpAnyH_take (i := 0) (oi := ⟨some 12, _, _, _, _, _⟩) (v := ?_) rfl (by kernel_rfl) (by kernel_rfl) (by kernel_rfl) (fun _ _ _ h => h) (Or.inl ⟨by rfl, ?_⟩) (by assumption) ?_; rotate_left 1; (focus (intro w hSw; (try dsimp only at hSw); go_simp <;> try (first | (with_reducible rfl) | (rw [if_neg (by omega)]) | (rw [if_pos (by omega)])))); try simp only [Act.put, List.setIfInBounds_toArray, List.set_cons_zero, List.set_cons_succ]); (refine wpAnyH_take (i := 1) (oi := ⟨some 13, _, _, _, _, _⟩) (v := ?_) rfl (by kernel_rfl) (by kernel_rfl) (by kernel_rfl) (fun _ _ _ h => h) (Or.inl ⟨by rfl, ?_⟩) (by assumption) ?_; rotate_left 1; (focus (intro w hSw; (try dsimp only at hSw); go_simp <;> try (first | (with_reducible rfl) | (rw [if_neg (by omega)]) | (rw [if_pos (by omega)])))); try simp only [Act.put, List.setIfInBounds_toArray, List.set_cons_zero, List.set_cons_succ]); (refine wpAnyH_take (i := 2) (oi := ⟨some 14, _, _, _, _, _⟩) (v := ?_) rfl (by kernel_rfl) (by kernel_rfl) (by kernel_rfl) (fun _ _ _ h => h) (Or.inl ⟨by rfl, ?_⟩) (by assumption) ?_; rotate_left 1; (focus (intro w hSw; (try dsimp only at hSw); go_simp <;> try (first | (with_reducible rfl) | (rw [if_neg (by omega)]) | (rw [if_pos (by omega)])))); try simp only [Act.put, List.setIfInBounds_toArray, List.set_cons_zero, List.set_cons_succ]))
      (refine wpAnyH_ready (rs := [3]) (by kernel_rfl) (by simp) ?_; refine AllReadyH.cons rfl (fun K hK => ?_) AllReadyH.nil; go_simp)
      refine (vlI_any a2 _ false HV.out).mono ?_
      rintro e0v V0 ⟨rfl, rfl⟩
      have q0 := hHeld
      clear hHeld
      (refine hK.out _ _ ?_ (fun hHeld => ?_))
      · exact q0
      clear hK K
      ((refine wpAnyH_take (i := 4) (oi := ⟨some 16, _, _, _, _, _⟩) (v := ?_) rfl (by kernel_rfl) (by kernel_rfl) (by kernel_rfl) (fun _ _ _ h => h) (Or.inl ⟨by rfl, ?_⟩) (by assumption) ?_; rotate_left 1; (focus (intro w hSw; (try dsimp only at hSw); go_simp <;> try (first | (with_reducible rfl) | (rw [if_neg (by omega)]) | (rw [if_pos (by omega)])))); try simp only [Act.put, List.setIfInBounds_toArray, List.set_cons_zero, List.set_cons_succ]); (refine wpAnyH_take (i := 5) (oi := ⟨some 17, _, _, _, _, _⟩) (v := undef) rfl (by kernel_rfl) (by kernel_rfl) (by kernel_rfl) (fun _ _ _ h => h) (Or.inr ⟨by rfl, rfl⟩) (by assumption) ?_; try simp only [Act.put, List.setIfInBounds_toArray, List.set_cons_zero, List.set_cons_succ]); (refine wpAnyH_take (i := 6) (oi := ⟨some 18, _, _, _, _, _⟩) (v := undef) rfl (by kernel_rfl) (by kernel_rfl) (by kernel_rfl) (fun _ _ _ h => h) (Or.inr ⟨by rfl, rfl⟩) (by assumption) ?_; try simp only [Act.put, List.setIfInBounds_toArray, List.set_cons_zero, List.set_cons_succ]); (refine wpAnyH_take (i := 7) (oi := ⟨some 19, _, _, _, _, _⟩) (v := undef) rfl (by kernel_rfl) (by kernel_rfl) (by kernel_rfl) (fun _ _ _ h => h) (Or.inr ⟨by rfl, rfl⟩) (by assumption) ?_; try simp only [Act.put, List.setIfInBounds_toArray, List.set_cons_zero, List.set_cons_succ]); (refine wpAnyH_take (i := 8) (oi := ⟨some 20, _, _, _, _, _⟩) (v := ?_) rfl (by kernel_rfl) (by kernel_rfl) (by kernel_rfl) (fun _ _ _ h => h) (Or.inl ⟨by rfl, ?_⟩) (by assumption) ?_; rotate_left 1; (focus (intro w hSw; (try dsimp only at hSw); go_simp <;> try (first | (with_reducible rfl) | (rw [if_neg (by omega)]) | (rw [if_pos (by omega)])))); try simp only [Act.put, List.setIfInBounds_toArray, List.set_cons_zero, List.set_cons_succ]))
      (refine wpAnyH_ready (rs := [9]) (by kernel_rfl) (by simp) ?_; refine AllReadyH.cons rfl (fun K hK => ?_) AllReadyH.nil; go_simp)
      refine (bcI_any a0_0 la0_0 ca0_0 xa0_0 a0_1 la0_1 ca0_1 xa0_1 a1_0 a1_1 a1_2 false _ ha0_0 ha0_1 ((RA.out.below (by repeat (first | assumption | exact Below.refl _ _ | (refine Below.setCell ?_ (by first | omega | (simp; done) | (simp; omega)) _) | apply below_drewN | apply Below.drew | (refine Below.alloc ?_ (by first | omega | (simp; done) | (simp; omega)) _)))).mono (by first | omega | (simp; done) | (simp; omega))) ((RB.out.below (by repeat (first | assumption | exact Below.refl _ _ | (refine Below.setCell ?_ (by first | omega | (simp; done) | (simp; omega)) _) | apply below_drewN | apply Below.drew | (refine Below.alloc ?_ (by first | omega | (simp; done) | (simp; omega)) _)))).mono (by first | omega | (simp; done) | (simp; omega))) (levOk a2 ∧ stoOk a3) HP.out k HK.out).mono ?_
      rintro e2v V2 ⟨rfl, B2⟩
      have q2_0 := (B2.cell (p := ⟨w.heap.size, 0, none⟩) (by first | omega | (simp; done) | (simp; omega))).trans hHeld.1
      have q2_1 := (B2.cell (p := ⟨w.heap.size, 1, none⟩) (by first | omega | (simp; done) | (simp; omega))).trans hHeld.2.1
      have q2_2 := (B2.cell (p := ⟨w.heap.size + 1, 0, none⟩) (by first | omega | (simp; done) | (simp; omega))).trans hHeld.2.2.1
      have q2_3 := (B2.cell (p := ⟨w.heap.size + 1, 1, none⟩) (by first | omega | (simp; done) | (simp; omega))).trans hHeld.2.2.2.1
      have q2_4 := (B2.cell (p := ⟨w.heap.size + 1, 2, none⟩) (by first | omega | (simp; done) | (simp; omega))).trans hHeld.2.2.2.2
      have G2 : w.heap.size + 1 + 1 < V2.heap.size := (by have := B2.size; (try simp at this); omega)
      have E2 : Below (w.heap.size + 1 + 1 + 1) (((w.alloc (.cells #[.slice a0_0 la0_0 ca0_0, .slice a0_1 la0_1 ca0_1] 30)).alloc (.cells #[.int .i64 a1_0, .int .i64 a1_1, .int .i64 a1_2] 32)).alloc (.cells #[.int .i64 0, .int .i64 0, .int .i64 0] 32)) V2 := (by repeat (first | assumption | exact Below.refl _ _ | (refine Below.trans ?_ (B2.mono (by first | omega | (simp; done) | (simp; omega)))) | (refine Below.setCell ?_ (by first | omega | (simp; done) | (simp; omega)) _) | apply below_drewN | apply Below.drew | (refine Below.alloc ?_ (by first | omega | (simp; done) | (simp; omega)) _)))
      have D2 : Below w.heap.size w V2 := (by repeat (first | assumption | exact Below.refl _ _ | (refine Below.trans ?_ (B2.mono (by first | omega | (simp; done) | (simp; omega)))) | (refine Below.setCell ?_ (by first | omega | (simp; done) | (simp; omega)) _) | apply below_drewN | apply Below.drew | (refine Below.alloc ?_ (by first | omega | (simp; done) | (simp; omega)) _)))
      clear hHeld
      (refine hK.out _ _ ?_ (fun hHeld => ?_))
      · exact ⟨q2_0, q2_1, q2_2, q2_3, q2_4⟩
      clear hK K
      ((refine wpAnyH_take (i := 10) (oi := ⟨some 10, _, _, _, _, _⟩) (v := ?_) rfl (by kernel_rfl) (by kernel_rfl) (by kernel_rfl) (fun _ _ _ h => h) (Or.inl ⟨by rfl, ?_⟩) (by assumption) ?_; rotate_left 1; (focus (intro w hSw; (try dsimp only at hSw); go_simp <;> try (first | (with_reducible rfl) | (rw [if_neg (by omega)]) | (rw [if_pos (by omega)])))); try simp only [Act.put, List.setIfInBounds_toArray, List.set_cons_zero, List.set_cons_succ]))
      refine wpAnyH_done (by kernel_rfl) ?_ _
      obtain ⟨_, _, _, _, _, x0, x1, x2, f0, f1, f2⟩ := box3 E2
      have d1 := D2
      clear E2 B2 D2
      go_wp2
      have PZ := three_back (w := V2) (r := w.heap.size + 1 + 1) (v0 := .int .i64 0) (v1 := .int .i64 0) (v2 := .int .i64 0) x0 x1 x2
      have le9 : ∀ j, w.heap.size ≤ (⟨w.heap.size + 1 + 1, j, none⟩ : Addr).block := fun j => (show w.heap.size ≤ w.heap.size + 1 + 1 by omega)
      have DZ : Below w.heap.size w (((V2.setCell ⟨w.heap.size + 1 + 1, 0, none⟩ (.int .i64 0)).setCell ⟨w.heap.size + 1 + 1, 1, none⟩ (.int .i64 0)).setCell ⟨w.heap.size + 1 + 1, 2, none⟩ (.int .i64 0)) := (((d1).setCell (le9 0) _).setCell (le9 1) _).setCell (le9 2) _
      generalize (((V2.setCell ⟨w.heap.size + 1 + 1, 0, none⟩ (.int .i64 0)).setCell ⟨w.heap.size + 1 + 1, 1, none⟩ (.int .i64 0)).setCell ⟨w.heap.size + 1 + 1, 2, none⟩ (.int .i64 0)) = Z at PZ DZ ⊢
      obtain ⟨p0, p1, p2⟩ := PZ
      exact bodyPost_ret (v := .tuple #[.agg #[.int .i64 0, .int .i64 0, .int .i64 0], .int .i64 k]) (by simp [results, Tryd.results22, go_sem, p0, p1, p2]) rfl ⟨rfl, DZ⟩


end Go.Proofs.YtckhfkgldemcnaaDoor
