/- What a mill lifts in an hour. -/
import Derived.Test.YtlkgbemlagfdjaaMilC
namespace Go.Proofs.Ytlkgbemlagfdjaa
open Go.RowKit

def r0_MillRate (a0_0 : Int) (a0_1 : Int) (a0_2 : Int) (a0_3 : Int) (a1 : Int) : Int := if mlOk a0_0 a0_1 a0_2 a0_3 ∧ fcOk a1 then mlR a0_1 a0_2 a0_3 a1 else 0
def r1_MillRate (a0_0 : Int) (a0_1 : Int) (a0_2 : Int) (a0_3 : Int) (a1 : Int) : Int := sc4 (mlOk a0_0 a0_1 a0_2 a0_3) (fcOk a1)

set_option maxHeartbeats 1600000 in
theorem specC_MillRate (a0_0 : Int) (a0_1 : Int) (a0_2 : Int) (a0_3 : Int) (a1 : Int) (w : World) (ha0_0 : (Lit.int .i64 a0_0).wf = true) (ha0_1 : (Lit.int .i64 a0_1).wf = true) (ha0_2 : (Lit.int .i64 a0_2).wf = true) (ha0_3 : (Lit.int .i64 a0_3).wf = true) (ha1 : (Lit.int .i64 a1).wf = true) :
    Calls Try.prog 18 #[.agg #[.int .i64 a0_0, .int .i64 a0_1, .int .i64 a0_2, .int .i64 a0_3], .int .i64 a1] w fun e w' => e = .returned (.tuple #[.int .i64 (r0_MillRate a0_0 a0_1 a0_2 a0_3 a1), .int .i64 (r1_MillRate a0_0 a0_1 a0_2 a0_3 a1)]) ∧ Below w.heap.size w w' := by
  by_cases h : mlOk a0_0 a0_1 a0_2 a0_3
  · have HV := Lib.hid (show true = decide (mlOk a0_0 a0_1 a0_2 a0_3) from (decide_eq_true h).symm)
    by_cases hf : fcOk a1
    · have e0 : r0_MillRate a0_0 a0_1 a0_2 a0_3 a1 = mlR a0_1 a0_2 a0_3 a1 := if_pos ⟨h, hf⟩
      have e1 : r1_MillRate a0_0 a0_1 a0_2 a0_3 a1 = 0 := sc4_ok h hf
      rw [e0, e1]
      have HF := Lib.hid (show true = decide (fcOk a1) from (decide_eq_true hf).symm)
      have HM := Lib.hid h
      have HX := Lib.hid hf
      obtain ⟨q, hq⟩ : ∃ q, q = mlR a0_1 a0_2 a0_3 a1 := ⟨_, rfl⟩
      rw [← hq]
      have HQ := Lib.hid hq
      clear h hf e0 e1 hq
      go_enter Try.func18, Try.ntmps18
      go_wp2_with (first | (go_at_call 51; refine (mlS_any _ _ _ _ _ _ HV.out).mono ?_; rintro ec wc ⟨rfl, bc⟩; obtain ⟨kc, fc⟩ := bcell bc; have x0 : wc.cell? ⟨w.heap.size, 0, none⟩ = some (.int .i64 a0_0) := (by rw [kc _ _ (by first | omega | (simp; done) | (simp; omega))]; first | (simp; done) | go_simp); have xf0 : wc.frozen? ⟨w.heap.size, 0, none⟩ = false := (by rw [fc _ _ (by first | omega | (simp; done) | (simp; omega))]; first | (simp; done) | go_simp); have x1 : wc.cell? ⟨w.heap.size, 1, none⟩ = some (.int .i64 a0_1) := (by rw [kc _ _ (by first | omega | (simp; done) | (simp; omega))]; first | (simp; done) | go_simp); have xf1 : wc.frozen? ⟨w.heap.size, 1, none⟩ = false := (by rw [fc _ _ (by first | omega | (simp; done) | (simp; omega))]; first | (simp; done) | go_simp); have x2 : wc.cell? ⟨w.heap.size, 2, none⟩ = some (.int .i64 a0_2) := (by rw [kc _ _ (by first | omega | (simp; done) | (simp; omega))]; first | (simp; done) | go_simp); have xf2 : wc.frozen? ⟨w.heap.size, 2, none⟩ = false := (by rw [fc _ _ (by first | omega | (simp; done) | (simp; omega))]; first | (simp; done) | go_simp); have x3 : wc.cell? ⟨w.heap.size, 3, none⟩ = some (.int .i64 a0_3) := (by rw [kc _ _ (by first | omega | (simp; done) | (simp; omega))]; first | (simp; done) | go_simp); have xf3 : wc.frozen? ⟨w.heap.size, 3, none⟩ = false := (by rw [fc _ _ (by first | omega | (simp; done) | (simp; omega))]; first | (simp; done) | go_simp); have dc : Below w.heap.size w wc := (by repeat (first | assumption | exact Below.refl _ _ | (refine Below.trans ?_ (bc.mono (by first | omega | (simp; done) | (simp; omega)))) | (refine Below.setCell ?_ (by first | omega | (simp; done) | (simp; omega)) _) | apply below_drewN | apply Below.drew | (refine Below.alloc ?_ (by first | omega | (simp; done) | (simp; omega)) _))); have sc : w.heap.size < wc.heap.size := (by have := bc.size; (try simp at this); omega); clear kc fc bc) | (go_at_call 53; refine (fcS_any _ _ _ HF.out).mono ?_; rintro ed wd ⟨rfl, rfl⟩) | (go_at_call 54; refine (rtS_t _ _ _ _ _ _ HM.out HX.out q HQ.out).mono ?_; rintro ef wf ⟨rfl, bf⟩))
      go_ret2
      exact ⟨rfl, (by repeat (first | assumption | exact Below.refl _ _ | (refine Below.trans ?_ (bf.mono (by first | omega | (simp; done) | (simp; omega)))) | (refine Below.trans ?_ (dc.mono (by first | omega | (simp; done) | (simp; omega)))) | (refine Below.setCell ?_ (by first | omega | (simp; done) | (simp; omega)) _) | apply below_drewN | apply Below.drew | (refine Below.alloc ?_ (by first | omega | (simp; done) | (simp; omega)) _)))⟩
    · have e0 : r0_MillRate a0_0 a0_1 a0_2 a0_3 a1 = 0 := if_neg (fun g => hf g.2)
      have e1 : r1_MillRate a0_0 a0_1 a0_2 a0_3 a1 = 2 := sc4_no h hf
      rw [e0, e1]
      have HF := Lib.hid (show false = decide (fcOk a1) from (decide_eq_false hf).symm)
      clear h hf e0 e1
      go_enter Try.func18, Try.ntmps18
      go_wp2_with (first | (go_at_call 51; refine (mlS_any _ _ _ _ _ _ HV.out).mono ?_; rintro ec wc ⟨rfl, bc⟩; have dc : Below w.heap.size w wc := (by repeat (first | assumption | exact Below.refl _ _ | (refine Below.trans ?_ (bc.mono (by first | omega | (simp; done) | (simp; omega)))) | (refine Below.setCell ?_ (by first | omega | (simp; done) | (simp; omega)) _) | apply below_drewN | apply Below.drew | (refine Below.alloc ?_ (by first | omega | (simp; done) | (simp; omega)) _))); clear bc) | (go_at_call 53; refine (fcS_any _ _ _ HF.out).mono ?_; rintro ed wd ⟨rfl, rfl⟩))
      go_ret2
      exact ⟨rfl, (by repeat (first | assumption | exact Below.refl _ _ | (refine Below.trans ?_ (dc.mono (by first | omega | (simp; done) | (simp; omega)))) | (refine Below.setCell ?_ (by first | omega | (simp; done) | (simp; omega)) _) | apply below_drewN | apply Below.drew | (refine Below.alloc ?_ (by first | omega | (simp; done) | (simp; omega)) _)))⟩
  · have HV := Lib.hid (show false = decide (mlOk a0_0 a0_1 a0_2 a0_3) from (decide_eq_false h).symm)
    have e0 : r0_MillRate a0_0 a0_1 a0_2 a0_3 a1 = 0 := if_neg (fun g => h g.1)
    have e1 : r1_MillRate a0_0 a0_1 a0_2 a0_3 a1 = 1 := sc4_bad h
    rw [e0, e1]
    clear h e0 e1
    go_enter Try.func18, Try.ntmps18
    go_wp2_with (first | (go_at_call 51; refine (mlS_any _ _ _ _ _ _ HV.out).mono ?_; rintro ec wc ⟨rfl, bc⟩; have dc : Below w.heap.size w wc := (by repeat (first | assumption | exact Below.refl _ _ | (refine Below.trans ?_ (bc.mono (by first | omega | (simp; done) | (simp; omega)))) | (refine Below.setCell ?_ (by first | omega | (simp; done) | (simp; omega)) _) | apply below_drewN | apply Below.drew | (refine Below.alloc ?_ (by first | omega | (simp; done) | (simp; omega)) _))); clear bc))
    go_ret2
    exact ⟨rfl, (by repeat (first | assumption | exact Below.refl _ _ | (refine Below.trans ?_ (dc.mono (by first | omega | (simp; done) | (simp; omega)))) | (refine Below.setCell ?_ (by first | omega | (simp; done) | (simp; omega)) _) | apply below_drewN | apply Below.drew | (refine Below.alloc ?_ (by first | omega | (simp; done) | (simp; omega)) _)))⟩

set_option maxHeartbeats 1600000 in
theorem implC_MillRate (a0_0 : Int) (a0_1 : Int) (a0_2 : Int) (a0_3 : Int) (a1 : Int) (w : World) (ha0_0 : (Lit.int .i64 a0_0).wf = true) (ha0_1 : (Lit.int .i64 a0_1).wf = true) (ha0_2 : (Lit.int .i64 a0_2).wf = true) (ha0_3 : (Lit.int .i64 a0_3).wf = true) (ha1 : (Lit.int .i64 a1).wf = true) :
    Calls Try.prog 19 #[.agg #[.int .i64 a0_0, .int .i64 a0_1, .int .i64 a0_2, .int .i64 a0_3], .int .i64 a1] w fun e w' => e = .returned (.tuple #[.int .i64 (r0_MillRate a0_0 a0_1 a0_2 a0_3 a1), .int .i64 (r1_MillRate a0_0 a0_1 a0_2 a0_3 a1)]) ∧ Below w.heap.size w w' := by
  by_cases h : mlOk a0_0 a0_1 a0_2 a0_3 ∧ fcOk a1
  · have e0 : r0_MillRate a0_0 a0_1 a0_2 a0_3 a1 = mlR a0_1 a0_2 a0_3 a1 := if_pos h
    have e1 : r1_MillRate a0_0 a0_1 a0_2 a0_3 a1 = 0 := sc4_ok h.1 h.2
    rw [e0, e1]
    have HV := Lib.hid (show true = decide (mlOk a0_0 a0_1 a0_2 a0_3) from (decide_eq_true h.1).symm)
    have HF := Lib.hid (show true = decide (fcOk a1) from (decide_eq_true h.2).symm)
    have HM := Lib.hid h.1
    have HX := Lib.hid h.2
    obtain ⟨q, hq⟩ : ∃ q, q = mlR a0_1 a0_2 a0_3 a1 := ⟨_, rfl⟩
    rw [← hq]
    have HQ := Lib.hid hq
    clear h e0 e1 hq
    go_enter Try.func19, Try.ntmps19
    go_wp2_with (first | (go_at_call 17; refine (mlI_any _ _ _ _ _ _ HV.out).mono ?_; rintro ec wc ⟨rfl, bc⟩; obtain ⟨kc, fc⟩ := bcell bc; have x0 : wc.cell? ⟨w.heap.size, 0, none⟩ = some (.int .i64 a0_0) := (by rw [kc _ _ (by first | omega | (simp; done) | (simp; omega))]; first | (simp; done) | go_simp); have xf0 : wc.frozen? ⟨w.heap.size, 0, none⟩ = false := (by rw [fc _ _ (by first | omega | (simp; done) | (simp; omega))]; first | (simp; done) | go_simp); have x1 : wc.cell? ⟨w.heap.size, 1, none⟩ = some (.int .i64 a0_1) := (by rw [kc _ _ (by first | omega | (simp; done) | (simp; omega))]; first | (simp; done) | go_simp); have xf1 : wc.frozen? ⟨w.heap.size, 1, none⟩ = false := (by rw [fc _ _ (by first | omega | (simp; done) | (simp; omega))]; first | (simp; done) | go_simp); have x2 : wc.cell? ⟨w.heap.size, 2, none⟩ = some (.int .i64 a0_2) := (by rw [kc _ _ (by first | omega | (simp; done) | (simp; omega))]; first | (simp; done) | go_simp); have xf2 : wc.frozen? ⟨w.heap.size, 2, none⟩ = false := (by rw [fc _ _ (by first | omega | (simp; done) | (simp; omega))]; first | (simp; done) | go_simp); have x3 : wc.cell? ⟨w.heap.size, 3, none⟩ = some (.int .i64 a0_3) := (by rw [kc _ _ (by first | omega | (simp; done) | (simp; omega))]; first | (simp; done) | go_simp); have xf3 : wc.frozen? ⟨w.heap.size, 3, none⟩ = false := (by rw [fc _ _ (by first | omega | (simp; done) | (simp; omega))]; first | (simp; done) | go_simp); have dc : Below w.heap.size w wc := (by repeat (first | assumption | exact Below.refl _ _ | (refine Below.trans ?_ (bc.mono (by first | omega | (simp; done) | (simp; omega)))) | (refine Below.setCell ?_ (by first | omega | (simp; done) | (simp; omega)) _) | apply below_drewN | apply Below.drew | (refine Below.alloc ?_ (by first | omega | (simp; done) | (simp; omega)) _))); have sc : w.heap.size < wc.heap.size := (by have := bc.size; (try simp at this); omega); clear kc fc bc) | (go_at_call 56; refine (fcI_any _ _ _ HF.out).mono ?_; rintro ed wd ⟨rfl, rfl⟩) | (go_at_call 55; refine (cf4 true true _ 0 rfl).mono ?_; rintro ee we ⟨rfl, rfl⟩) | (go_at_call 57; refine (rtI_t _ _ _ _ _ _ HM.out HX.out q HQ.out).mono ?_; rintro ef wf ⟨rfl, bf⟩))
    go_ret2
    exact ⟨rfl, (by repeat (first | assumption | exact Below.refl _ _ | (refine Below.trans ?_ (bf.mono (by first | omega | (simp; done) | (simp; omega)))) | (refine Below.trans ?_ (dc.mono (by first | omega | (simp; done) | (simp; omega)))) | (refine Below.setCell ?_ (by first | omega | (simp; done) | (simp; omega)) _) | apply below_drewN | apply Below.drew | (refine Below.alloc ?_ (by first | omega | (simp; done) | (simp; omega)) _)))⟩
  · have e0 : r0_MillRate a0_0 a0_1 a0_2 a0_3 a1 = 0 := if_neg h
    have e2 := sc4_ne h
    rw [e0]
    obtain ⟨v, hv⟩ : ∃ v, v = decide (mlOk a0_0 a0_1 a0_2 a0_3) := ⟨_, rfl⟩
    obtain ⟨r, hr⟩ : ∃ r, r = decide (fcOk a1) := ⟨_, rfl⟩
    have HV := Lib.hid hv
    have HR := Lib.hid hr
    have hk : r1_MillRate a0_0 a0_1 a0_2 a0_3 a1 = if v then (if r then 0 else 2) else 1 := by unfold r1_MillRate sc4; rw [hv, hr]; simp
    have e4 : ((r1_MillRate a0_0 a0_1 a0_2 a0_3 a1) != 0) = true := e2
    generalize r1_MillRate a0_0 a0_1 a0_2 a0_3 a1 = C at *
    have HK := Lib.hid hk
    clear h e0 e2 hv hr hk
    go_enter Try.func19, Try.ntmps19
    go_wp2_with (first | (go_at_call 17; refine (mlI_any _ _ _ _ _ v HV.out).mono ?_; rintro ec wc ⟨rfl, bc⟩; have dc : Below w.heap.size w wc := (by repeat (first | assumption | exact Below.refl _ _ | (refine Below.trans ?_ (bc.mono (by first | omega | (simp; done) | (simp; omega)))) | (refine Below.setCell ?_ (by first | omega | (simp; done) | (simp; omega)) _) | apply below_drewN | apply Below.drew | (refine Below.alloc ?_ (by first | omega | (simp; done) | (simp; omega)) _))); have sc : w.heap.size < wc.heap.size := (by have := bc.size; (try simp at this); omega); clear bc) | (go_at_call 56; refine (fcI_any _ _ r HR.out).mono ?_; rintro ed wd ⟨rfl, rfl⟩) | (go_at_call 55; refine (cf4 v r _ C HK.out).mono ?_; rintro ee we ⟨rfl, rfl⟩))
    exact bodyPost_ret (v := .tuple #[.int .i64 0, .int .i64 C]) (by simp [results, Try.results19, go_sem]) rfl ⟨rfl, (by repeat (first | assumption | exact Below.refl _ _ | (refine Below.trans ?_ (dc.mono (by first | omega | (simp; done) | (simp; omega)))) | (refine Below.setCell ?_ (by first | omega | (simp; done) | (simp; omega)) _) | apply below_drewN | apply Below.drew | (refine Below.alloc ?_ (by first | omega | (simp; done) | (simp; omega)) _)))⟩

end Go.Proofs.Ytlkgbemlagfdjaa
