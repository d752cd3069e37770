import Derived.Test.YthjcpgabdlfojaaRainN
import Derived.Test.YthjcpgabdlfojaaFrac
namespace Go.Proofs.Ythjcpgabdlfojaa
open Go.RowKit

def rtm (xa0 : List Int) (a1 : Int) : Int := cntN xa0 a1 xa0.length
def rtOk (xa0 : List Int) (a1 : Int) : Prop := (RainOk xa0.length xa0 ∧ isRn a1) ∧ rtm xa0 a1 ≠ 0
instance (xa0 : List Int) (a1 : Int) : Decidable (rtOk xa0 a1) := by unfold rtOk; exact inferInstance
def r0_ReturnTime (xa0 : List Int) (a1 : Int) : Int := if rtOk xa0 a1 then fnum ((xa0.length : Int) + 1) (rtm xa0 a1) else 0
def r1_ReturnTime (xa0 : List Int) (a1 : Int) : Int := if rtOk xa0 a1 then fden ((xa0.length : Int) + 1) (rtm xa0 a1) else 0
def r2_ReturnTime (xa0 : List Int) (a1 : Int) : Int := if RainOk xa0.length xa0 ∧ isRn a1 then (if rtm xa0 a1 = 0 then 3 else 0) else rcode xa0.length xa0 (isRn a1)

theorem rd_al {w : World} {A : Option Addr} {n : Nat} {xs : List Int} (h : Rd w w.heap.size A n xs) (o : Obj) : Rd (w.alloc o) (w.alloc o).heap.size A n xs :=
  Rd.mono (h.below ((Below.refl _ _).alloc (Nat.le_refl _) _)) (by simp)

set_option maxHeartbeats 1600000 in
theorem implC_ReturnTime (a0 : Option Addr) (la0 ca0 : Nat) (xa0 : List Int) (a1 : Int) (w : World) (ha0 : la0 ≤ 1048576) (ra0 : Rd w w.heap.size a0 la0 xa0) (fa0 : Wf xa0) (ha1 : (Lit.int .i64 a1).wf = true) :
    Calls Try.prog 15 #[.slice a0 la0 ca0, .int .i64 a1] w fun e w' => e = .returned (.tuple #[.agg #[.int .i64 (r0_ReturnTime xa0 a1), .int .i64 (r1_ReturnTime xa0 a1)], .int .i64 (r2_ReturnTime xa0 a1)]) ∧ Below w.heap.size w w' := by
  have hln := ra0.1
  have HA := Lib.hid (rd_al ra0 (.cells #[.int .i64 0, .int .i64 0] 40))
  clear ra0
  by_cases hv : RainOk la0 xa0
  · by_cases h1 : isRn a1
    · have h1' := hv.2.1
      have h120 := hv.2.2
      obtain ⟨n1, n2⟩ := cntN_bd xa0 a1 la0
      have HR := Lib.hid (show rcode la0 xa0 (isRn a1) = 0 from rcode_ok hv h1)
      have HD := Lib.hid (decide_eq_true h1)
      by_cases hm : cntN xa0 a1 la0 = 0
      · have e0 : r0_ReturnTime xa0 a1 = 0 := if_neg (fun g => g.2 (by unfold rtm; rw [hln]; exact hm))
        have e1 : r1_ReturnTime xa0 a1 = 0 := if_neg (fun g => g.2 (by unfold rtm; rw [hln]; exact hm))
        have e2 : r2_ReturnTime xa0 a1 = 3 := by unfold r2_ReturnTime rtm; rw [hln, if_pos ⟨hv, h1⟩, if_pos hm]
        rw [e0, e1, e2]
        have HM := Lib.hid hm
        clear e0 e1 e2 hv h1 n1 n2
        go_enter Try.func15, Try.ntmps15
        go_wp2_with (first | (go_at_call 18; refine (rainCode_t _ _ _ xa0 _ (isRn a1) _ ha0 HA.out rfl).mono ?_; rintro e1 w1 ⟨rfl, rfl⟩; rw [HR.out]) | (go_at_call 24; refine (isRain_any _ _).mono ?_; rintro e w' ⟨rfl, rfl⟩) | (go_at_call 23; refine (countFrom_t _ _ _ xa0 a1 _ ha0 ((HA.out.below (by repeat (first | assumption | exact Below.refl _ _ | (refine Below.setCell ?_ (by first | omega | (simp; done) | (simp; omega)) _) | apply below_drewN | apply Below.drew | (refine Below.alloc ?_ (by first | omega | (simp; done) | (simp; omega)) _)))).mono (by first | omega | (simp; done) | (simp; omega)))).mono ?_; rintro e w' ⟨rfl, rfl⟩; rw [HM.out]))
        exact bodyPost_ret (v := .tuple #[.agg #[.int .i64 0, .int .i64 0], .int .i64 3]) (by simp [results, Try.results15, go_sem]) rfl ⟨rfl, (by repeat (first | assumption | exact Below.refl _ _ | (refine Below.setCell ?_ (by first | omega | (simp; done) | (simp; omega)) _) | apply below_drewN | apply Below.drew | (refine Below.alloc ?_ (by first | omega | (simp; done) | (simp; omega)) _)))⟩
      · have hok : rtOk xa0 a1 := ⟨⟨by rw [hln]; exact hv, h1⟩, by unfold rtm; rw [hln]; exact hm⟩
        have e0 : r0_ReturnTime xa0 a1 = fnum ((la0 : Int) + 1) (cntN xa0 a1 la0) := by unfold r0_ReturnTime; rw [if_pos hok]; unfold rtm; rw [hln]
        have e1 : r1_ReturnTime xa0 a1 = fden ((la0 : Int) + 1) (cntN xa0 a1 la0) := by unfold r1_ReturnTime; rw [if_pos hok]; unfold rtm; rw [hln]
        have e2 : r2_ReturnTime xa0 a1 = 0 := by unfold r2_ReturnTime rtm; rw [hln, if_pos ⟨hv, h1⟩, if_neg hm]
        rw [e0, e1, e2]
        obtain ⟨m, hmm⟩ : ∃ m, m = cntN xa0 a1 la0 := ⟨_, rfl⟩
        rw [← hmm] at hm n1 n2 ⊢
        have HM := Lib.hid hmm.symm
        have hm0 : (m == 0) = false := by simp; omega
        have hm1 : 1 ≤ m := by omega
        clear e0 e1 e2 hv h1 hmm hok
        go_enter Try.func15, Try.ntmps15
        go_wp2_with (first | (go_at_call 18; refine (rainCode_t _ _ _ xa0 _ (isRn a1) _ ha0 HA.out rfl).mono ?_; rintro e1 w1 ⟨rfl, rfl⟩; rw [HR.out]) | (go_at_call 24; refine (isRain_any _ _).mono ?_; rintro e w' ⟨rfl, rfl⟩) | (go_at_call 23; refine (countFrom_t _ _ _ xa0 a1 _ ha0 ((HA.out.below (by repeat (first | assumption | exact Below.refl _ _ | (refine Below.setCell ?_ (by first | omega | (simp; done) | (simp; omega)) _) | apply below_drewN | apply Below.drew | (refine Below.alloc ?_ (by first | omega | (simp; done) | (simp; omega)) _)))).mono (by first | omega | (simp; done) | (simp; omega)))).mono ?_; rintro e w' ⟨rfl, rfl⟩; rw [HM.out]))
        refine (impl_lowest _ _ _ (by omega) (by omega) (by omega) (by omega)).mono ?_
        rintro e w1 ⟨rfl, hb⟩
        obtain ⟨hc, hf⟩ := bcell hb
        have hz := hb.size
        simp at hz
        have hz8 : w.heap.size < w1.heap.size := by omega
        have hz9 : w.heap.size < w.heap.size + 1 + 1 + 1 + 1 := by omega
        have y0 : w1.cell? ⟨w.heap.size, 0, none⟩ = some (.int .i64 0) := (by rw [hc _ _ (by first | omega | (simp; done) | (simp; omega))]; first | (simp; done) | go_simp); have yf0 : w1.frozen? ⟨w.heap.size, 0, none⟩ = false := (by rw [hf _ _ (by first | omega | (simp; done) | (simp; omega))]; first | (simp; done) | go_simp); have y1 : w1.cell? ⟨w.heap.size, 1, none⟩ = some (.int .i64 0) := (by rw [hc _ _ (by first | omega | (simp; done) | (simp; omega))]; first | (simp; done) | go_simp); have yf1 : w1.frozen? ⟨w.heap.size, 1, none⟩ = false := (by rw [hf _ _ (by first | omega | (simp; done) | (simp; omega))]; first | (simp; done) | go_simp)
        clear hc hf
        go_wp2_with fail
        exact bodyPost_ret (v := .tuple #[.agg #[.int .i64 (fnum ((la0 : Int) + 1) m), .int .i64 (fden ((la0 : Int) + 1) m)], .int .i64 0]) (by simp [results, Try.results15, go_sem, hz, hz8, y0, y1, yf0, yf1]) rfl ⟨rfl, by
          refine Below.setCell (Below.setCell (Below.trans ?_ (hb.mono (by first | (simp; done) | (simp; omega)))) (by simp) _) (by simp) _
          exact (by repeat (first | assumption | exact Below.refl _ _ | (refine Below.setCell ?_ (by first | omega | (simp; done) | (simp; omega)) _) | apply below_drewN | apply Below.drew | (refine Below.alloc ?_ (by first | omega | (simp; done) | (simp; omega)) _)))⟩
    · have e0 : r0_ReturnTime xa0 a1 = 0 := if_neg (fun g => h1 g.1.2)
      have e1 : r1_ReturnTime xa0 a1 = 0 := if_neg (fun g => h1 g.1.2)
      have e2 : r2_ReturnTime xa0 a1 = 2 := by unfold r2_ReturnTime; rw [hln, if_neg (fun g => h1 g.2)]; exact rcode_no hv h1
      rw [e0, e1, e2]
      have HR := Lib.hid (show rcode la0 xa0 (isRn a1) = 2 from rcode_no hv h1)
      clear e0 e1 e2 hv h1
      go_enter Try.func15, Try.ntmps15
      go_wp2_with (first | (go_at_call 18; refine (rainCode_t _ _ _ xa0 _ (isRn a1) _ ha0 HA.out rfl).mono ?_; rintro e1 w1 ⟨rfl, rfl⟩; rw [HR.out]) | (go_at_call 24; refine (isRain_any _ _).mono ?_; rintro e w' ⟨rfl, rfl⟩))
      exact bodyPost_ret (v := .tuple #[.agg #[.int .i64 0, .int .i64 0], .int .i64 2]) (by simp [results, Try.results15, go_sem]) rfl ⟨rfl, (by repeat (first | assumption | exact Below.refl _ _ | (refine Below.setCell ?_ (by first | omega | (simp; done) | (simp; omega)) _) | apply below_drewN | apply Below.drew | (refine Below.alloc ?_ (by first | omega | (simp; done) | (simp; omega)) _)))⟩
  · have e0 : r0_ReturnTime xa0 a1 = 0 := if_neg (fun g => hv (by rw [← hln]; exact g.1.1))
    have e1 : r1_ReturnTime xa0 a1 = 0 := if_neg (fun g => hv (by rw [← hln]; exact g.1.1))
    have e2 : r2_ReturnTime xa0 a1 = 1 := by unfold r2_ReturnTime; rw [hln, if_neg (fun g => hv g.1)]; exact rcode_bad hv
    rw [e0, e1, e2]
    have HR := Lib.hid (show rcode la0 xa0 (isRn a1) = 1 from rcode_bad hv)
    clear e0 e1 e2 hv
    go_enter Try.func15, Try.ntmps15
    go_wp2_with (first | (go_at_call 18; refine (rainCode_t _ _ _ xa0 _ (isRn a1) _ ha0 HA.out rfl).mono ?_; rintro e1 w1 ⟨rfl, rfl⟩; rw [HR.out]) | (go_at_call 24; refine (isRain_any _ _).mono ?_; rintro e w' ⟨rfl, rfl⟩))
    exact bodyPost_ret (v := .tuple #[.agg #[.int .i64 0, .int .i64 0], .int .i64 1]) (by simp [results, Try.results15, go_sem]) rfl ⟨rfl, (by repeat (first | assumption | exact Below.refl _ _ | (refine Below.setCell ?_ (by first | omega | (simp; done) | (simp; omega)) _) | apply below_drewN | apply Below.drew | (refine Below.alloc ?_ (by first | omega | (simp; done) | (simp; omega)) _)))⟩

end Go.Proofs.Ythjcpgabdlfojaa
