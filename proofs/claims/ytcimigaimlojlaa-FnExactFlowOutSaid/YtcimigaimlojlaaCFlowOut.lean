/- How much water goes out of a sluice that is open. -/
import Derived.Test.YtcimigaimlojlaaRSluice
import Derived.Test.YtcimigaimlojlaaSluF
namespace Go.Proofs.Ytcimigaimlojlaa
open Go.RowKit

def two (a b : Int) : Prop := slv a ∧ slv b
instance (a b : Int) : Decidable (two a b) := by unfold two; exact inferInstance
def r0_FlowOut (a0_0 : Int) (a0_1 : Int) (a1 : Int) (a2 : Int) : Int := if slOk a0_0 a0_1 ∧ two a1 a2 then flN a0_0 a0_1 a1 a2 else 0
def r1_FlowOut (a0_0 : Int) (a0_1 : Int) (a1 : Int) (a2 : Int) : Int := sc3 (slOk a0_0 a0_1) (two a1 a2)

set_option maxHeartbeats 800000 in
theorem l09Code_t (wd sl i o : Int) (w : World) (C : Int) (hC : sc3 (slOk wd sl) (two i o) = C) :
    Calls Try.prog 38 #[.agg #[.int .i64 wd, .int .i64 sl], .int .i64 i, .int .i64 o] w fun e w' => e = .returned (.int .i64 C) ∧ Below w.heap.size w w' := by
  by_cases h : slOk wd sl
  · have HV := Lib.hid (show true = decide (slOk wd sl) from (decide_eq_true h).symm)
    by_cases h1 : slv i
    · have H1 := Lib.hid (show true = decide (slv i) from (decide_eq_true h1).symm)
      by_cases h2 : slv o
      · have H2 := Lib.hid (show true = decide (slv o) from (decide_eq_true h2).symm)
        obtain rfl : C = 0 := by rw [← hC]; exact sc3_ok h ⟨h1, h2⟩
        clear h h1 h2 hC
        go_enter Try.func38, Try.ntmps38
        go_wp2_with (first | (go_at_call 44; refine (sluS_any _ _ _ _ HV.out).mono ?_; rintro e1 w1 ⟨rfl, b1⟩) | (go_at_call 47; have := tok; refine (slvS_any o _ _ H2.out).mono ?_; rintro e3 w3 ⟨rfl, rfl⟩) | (go_at_call 47; refine (slvS_any i _ _ H1.out).mono ?_; rintro e2 w2 ⟨rfl, rfl⟩; have tok : True := trivial))
        go_ret
        exact ⟨rfl, (by repeat (first | assumption | exact Below.refl _ _ | (refine Below.trans ?_ (b1.mono (by first | omega | (simp; done) | (simp; omega)))) | (refine Below.setCell ?_ (by first | omega | (simp; done) | (simp; omega)) _) | apply below_drewN | apply Below.drew | (refine Below.alloc ?_ (by first | omega | (simp; done) | (simp; omega)) _)))⟩
      · have H2 := Lib.hid (show false = decide (slv o) from (decide_eq_false h2).symm)
        obtain rfl : C = 2 := by rw [← hC]; exact sc3_no h (fun g => h2 g.2)
        clear h h1 h2 hC
        go_enter Try.func38, Try.ntmps38
        go_wp2_with (first | (go_at_call 44; refine (sluS_any _ _ _ _ HV.out).mono ?_; rintro e1 w1 ⟨rfl, b1⟩) | (go_at_call 47; have := tok; refine (slvS_any o _ _ H2.out).mono ?_; rintro e3 w3 ⟨rfl, rfl⟩) | (go_at_call 47; refine (slvS_any i _ _ H1.out).mono ?_; rintro e2 w2 ⟨rfl, rfl⟩; have tok : True := trivial))
        go_ret
        exact ⟨rfl, (by repeat (first | assumption | exact Below.refl _ _ | (refine Below.trans ?_ (b1.mono (by first | omega | (simp; done) | (simp; omega)))) | (refine Below.setCell ?_ (by first | omega | (simp; done) | (simp; omega)) _) | apply below_drewN | apply Below.drew | (refine Below.alloc ?_ (by first | omega | (simp; done) | (simp; omega)) _)))⟩
    · have H1 := Lib.hid (show false = decide (slv i) from (decide_eq_false h1).symm)
      obtain rfl : C = 2 := by rw [← hC]; exact sc3_no h (fun g => h1 g.1)
      clear h h1 hC
      go_enter Try.func38, Try.ntmps38
      go_wp2_with (first | (go_at_call 44; refine (sluS_any _ _ _ _ HV.out).mono ?_; rintro e1 w1 ⟨rfl, b1⟩) | (go_at_call 47; refine (slvS_any i _ _ H1.out).mono ?_; rintro e2 w2 ⟨rfl, rfl⟩))
      go_ret
      exact ⟨rfl, (by repeat (first | assumption | exact Below.refl _ _ | (refine Below.trans ?_ (b1.mono (by first | omega | (simp; done) | (simp; omega)))) | (refine Below.setCell ?_ (by first | omega | (simp; done) | (simp; omega)) _) | apply below_drewN | apply Below.drew | (refine Below.alloc ?_ (by first | omega | (simp; done) | (simp; omega)) _)))⟩
  · have HV := Lib.hid (show false = decide (slOk wd sl) from (decide_eq_false h).symm)
    obtain rfl : C = 1 := by rw [← hC]; exact sc3_bad h
    clear h hC
    go_enter Try.func38, Try.ntmps38
    go_wp2_with (go_at_call 44; refine (sluS_any _ _ _ _ HV.out).mono ?_; rintro e1 w1 ⟨rfl, b1⟩)
    go_ret
    exact ⟨rfl, (by repeat (first | assumption | exact Below.refl _ _ | (refine Below.trans ?_ (b1.mono (by first | omega | (simp; done) | (simp; omega)))) | (refine Below.setCell ?_ (by first | omega | (simp; done) | (simp; omega)) _) | apply below_drewN | apply Below.drew | (refine Below.alloc ?_ (by first | omega | (simp; done) | (simp; omega)) _)))⟩

set_option maxHeartbeats 800000 in
theorem specC_FlowOut (a0_0 : Int) (a0_1 : Int) (a1 : Int) (a2 : Int) (w : World) (ha0_0 : (Lit.int .i64 a0_0).wf = true) (ha0_1 : (Lit.int .i64 a0_1).wf = true) (ha1 : (Lit.int .i64 a1).wf = true) (ha2 : (Lit.int .i64 a2).wf = true) :
    Calls Try.prog 9 #[.agg #[.int .i64 a0_0, .int .i64 a0_1], .int .i64 a1, .int .i64 a2] w fun e w' => e = .returned (.tuple #[.int .i64 (r0_FlowOut a0_0 a0_1 a1 a2), .int .i64 (r1_FlowOut a0_0 a0_1 a1 a2)]) ∧ Below w.heap.size w w' := by
  by_cases h : slOk a0_0 a0_1 ∧ two a1 a2
  · have e0 : r0_FlowOut a0_0 a0_1 a1 a2 = flN a0_0 a0_1 a1 a2 := if_pos h
    have e1 : r1_FlowOut a0_0 a0_1 a1 a2 = 0 := sc3_ok h.1 h.2
    rw [e0, e1]
    have HC := Lib.hid (show sc3 (slOk a0_0 a0_1) (two a1 a2) = 0 from e1)
    have HS := Lib.hid h.1
    have H1 := Lib.hid h.2.1
    have H2 := Lib.hid h.2.2
    obtain ⟨q, hq⟩ : ∃ q, q = flN a0_0 a0_1 a1 a2 := ⟨_, rfl⟩
    rw [← hq]
    have HQ := Lib.hid hq
    clear h e0 e1 hq
    go_enter Try.func9, Try.ntmps9
    go_wp2_with (first | (go_at_call 38; refine (l09Code_t _ _ _ _ _ _ HC.out).mono ?_; rintro ec wc ⟨rfl, bc⟩; obtain ⟨kc, fc⟩ := bcell bc; have x0 : wc.cell? ⟨w.heap.size, 0, none⟩ = some (.int .i64 a0_0) := (by rw [kc _ _ (by first | omega | (simp; done) | (simp; omega))]; first | (simp; done) | go_simp); have xf0 : wc.frozen? ⟨w.heap.size, 0, none⟩ = false := (by rw [fc _ _ (by first | omega | (simp; done) | (simp; omega))]; first | (simp; done) | go_simp); have x1 : wc.cell? ⟨w.heap.size, 1, none⟩ = some (.int .i64 a0_1) := (by rw [kc _ _ (by first | omega | (simp; done) | (simp; omega))]; first | (simp; done) | go_simp); have xf1 : wc.frozen? ⟨w.heap.size, 1, none⟩ = false := (by rw [fc _ _ (by first | omega | (simp; done) | (simp; omega))]; first | (simp; done) | go_simp); have dc : Below w.heap.size w wc := (by repeat (first | assumption | exact Below.refl _ _ | (refine Below.trans ?_ (bc.mono (by first | omega | (simp; done) | (simp; omega)))) | (refine Below.setCell ?_ (by first | omega | (simp; done) | (simp; omega)) _) | apply below_drewN | apply Below.drew | (refine Below.alloc ?_ (by first | omega | (simp; done) | (simp; omega)) _))); have sc : w.heap.size < wc.heap.size := (by have := bc.size; (try simp at this); omega); clear kc fc bc) | (go_at_call 39; refine (flowS_t _ _ _ _ _ HS.out H1.out H2.out q HQ.out).mono ?_; rintro ef wf ⟨rfl, bf⟩))
    go_ret2
    exact ⟨rfl, (by repeat (first | assumption | exact Below.refl _ _ | (refine Below.trans ?_ (bf.mono (by first | omega | (simp; done) | (simp; omega)))) | (refine Below.trans ?_ (dc.mono (by first | omega | (simp; done) | (simp; omega)))) | (refine Below.setCell ?_ (by first | omega | (simp; done) | (simp; omega)) _) | apply below_drewN | apply Below.drew | (refine Below.alloc ?_ (by first | omega | (simp; done) | (simp; omega)) _)))⟩
  · have e0 : r0_FlowOut a0_0 a0_1 a1 a2 = 0 := if_neg h
    have e2 := sc3_ne h
    rw [e0]
    unfold r1_FlowOut
    obtain ⟨C, hC⟩ : ∃ C, sc3 (slOk a0_0 a0_1) (two a1 a2) = C := ⟨_, rfl⟩
    rw [hC] at e2 ⊢
    have HC := Lib.hid hC
    clear h e0 hC
    go_enter Try.func9, Try.ntmps9
    go_wp2_with (go_at_call 38; refine (l09Code_t _ _ _ _ _ _ HC.out).mono ?_; rintro ec wc ⟨rfl, bc⟩)
    go_ret2
    exact ⟨rfl, (by repeat (first | assumption | exact Below.refl _ _ | (refine Below.trans ?_ (bc.mono (by first | omega | (simp; done) | (simp; omega)))) | (refine Below.setCell ?_ (by first | omega | (simp; done) | (simp; omega)) _) | apply below_drewN | apply Below.drew | (refine Below.alloc ?_ (by first | omega | (simp; done) | (simp; omega)) _)))⟩

set_option maxHeartbeats 1600000 in
theorem implC_FlowOut (a0_0 : Int) (a0_1 : Int) (a1 : Int) (a2 : Int) (w : World) (ha0_0 : (Lit.int .i64 a0_0).wf = true) (ha0_1 : (Lit.int .i64 a0_1).wf = true) (ha1 : (Lit.int .i64 a1).wf = true) (ha2 : (Lit.int .i64 a2).wf = true) :
    Calls Try.prog 11 #[.agg #[.int .i64 a0_0, .int .i64 a0_1], .int .i64 a1, .int .i64 a2] w fun e w' => e = .returned (.tuple #[.int .i64 (r0_FlowOut a0_0 a0_1 a1 a2), .int .i64 (r1_FlowOut a0_0 a0_1 a1 a2)]) ∧ Below w.heap.size w w' := by
  by_cases h : slOk a0_0 a0_1 ∧ two a1 a2
  · have e0 : r0_FlowOut a0_0 a0_1 a1 a2 = flN a0_0 a0_1 a1 a2 := if_pos h
    have e1 : r1_FlowOut a0_0 a0_1 a1 a2 = 0 := sc3_ok h.1 h.2
    rw [e0, e1]
    have HV := Lib.hid (show true = decide (slOk a0_0 a0_1) from (decide_eq_true h.1).symm)
    have HR := Lib.hid (show allIn (-2000) 2000 2 [a1, a2] from allIn_two.2 h.2)
    have HS := Lib.hid h.1
    have H1 := Lib.hid h.2.1
    have H2 := Lib.hid h.2.2
    obtain ⟨q, hq⟩ : ∃ q, q = flN a0_0 a0_1 a1 a2 := ⟨_, rfl⟩
    rw [← hq]
    have HQ := Lib.hid hq
    clear h e0 e1 hq
    go_enter Try.func11, Try.ntmps11
    go_wp2_with (first | (go_at_call 41; refine (sluI_any _ _ _ _ HV.out).mono ?_; rintro ec wc ⟨rfl, bc⟩; obtain ⟨kc, fc⟩ := bcell bc; have x0 : wc.cell? ⟨w.heap.size, 0, none⟩ = some (.int .i64 a0_0) := (by rw [kc _ _ (by first | omega | (simp; done) | (simp; omega))]; first | (simp; done) | go_simp); have xf0 : wc.frozen? ⟨w.heap.size, 0, none⟩ = false := (by rw [fc _ _ (by first | omega | (simp; done) | (simp; omega))]; first | (simp; done) | go_simp); have x1 : wc.cell? ⟨w.heap.size, 1, none⟩ = some (.int .i64 a0_1) := (by rw [kc _ _ (by first | omega | (simp; done) | (simp; omega))]; first | (simp; done) | go_simp); have xf1 : wc.frozen? ⟨w.heap.size, 1, none⟩ = false := (by rw [fc _ _ (by first | omega | (simp; done) | (simp; omega))]; first | (simp; done) | go_simp); have dc : Below w.heap.size w wc := (by repeat (first | assumption | exact Below.refl _ _ | (refine Below.trans ?_ (bc.mono (by first | omega | (simp; done) | (simp; omega)))) | (refine Below.setCell ?_ (by first | omega | (simp; done) | (simp; omega)) _) | apply below_drewN | apply Below.drew | (refine Below.alloc ?_ (by first | omega | (simp; done) | (simp; omega)) _))); have sc : w.heap.size < wc.heap.size := (by have := bc.size; (try simp at this); omega); clear kc fc bc) | (go_at_call 42; refine (areLevels_any _ _ _ [a1, a2] _ (by omega) ((rd_two _ _ _ _).mono (by first | omega | (simp; done) | (simp; omega))) true ⟨fun _ => HR.out, fun _ => rfl⟩).mono ?_; rintro ed W2 ⟨rfl, bd⟩; have bq : Below wc.heap.size wc W2 := (by repeat (first | assumption | exact Below.refl _ _ | (refine Below.trans ?_ (bd.mono (by first | omega | (simp; done) | (simp; omega)))) | (refine Below.setCell ?_ (by first | omega | (simp; done) | (simp; omega)) _) | apply below_drewN | apply Below.drew | (refine Below.alloc ?_ (by first | omega | (simp; done) | (simp; omega)) _))); have y0 : W2.cell? ⟨w.heap.size, 0, none⟩ = _ := (bq.cell (p := ⟨w.heap.size, 0, none⟩) (show w.heap.size < _ from (by first | omega | (simp; done) | (simp; omega)))).trans x0; have yf0 : W2.frozen? ⟨w.heap.size, 0, none⟩ = _ := (bq.frozen (p := ⟨w.heap.size, 0, none⟩) (show w.heap.size < _ from (by first | omega | (simp; done) | (simp; omega)))).trans xf0; have y1 : W2.cell? ⟨w.heap.size, 1, none⟩ = _ := (bq.cell (p := ⟨w.heap.size, 1, none⟩) (show w.heap.size < _ from (by first | omega | (simp; done) | (simp; omega)))).trans x1; have yf1 : W2.frozen? ⟨w.heap.size, 1, none⟩ = _ := (bq.frozen (p := ⟨w.heap.size, 1, none⟩) (show w.heap.size < _ from (by first | omega | (simp; done) | (simp; omega)))).trans xf1; have dd : Below w.heap.size w W2 := (by repeat (first | assumption | exact Below.refl _ _ | (refine Below.trans ?_ (bd.mono (by first | omega | (simp; done) | (simp; omega)))) | (refine Below.trans ?_ (dc.mono (by first | omega | (simp; done) | (simp; omega)))) | (refine Below.setCell ?_ (by first | omega | (simp; done) | (simp; omega)) _) | apply below_drewN | apply Below.drew | (refine Below.alloc ?_ (by first | omega | (simp; done) | (simp; omega)) _))); have sd : w.heap.size < W2.heap.size := (by have := bd.size; (try simp at this); omega); clear bq bd) | (go_at_call 40; refine (codeFor_k true true _ 0 rfl).mono ?_; rintro ee we ⟨rfl, rfl⟩) | (go_at_call 43; refine (flowI_t _ _ _ _ _ HS.out H1.out H2.out q HQ.out).mono ?_; rintro ef wf ⟨rfl, bf⟩))
    go_ret2
    exact ⟨rfl, (by repeat (first | assumption | exact Below.refl _ _ | (refine Below.trans ?_ (bf.mono (by first | omega | (simp; done) | (simp; omega)))) | (refine Below.trans ?_ (dd.mono (by first | omega | (simp; done) | (simp; omega)))) | (refine Below.setCell ?_ (by first | omega | (simp; done) | (simp; omega)) _) | apply below_drewN | apply Below.drew | (refine Below.alloc ?_ (by first | omega | (simp; done) | (simp; omega)) _)))⟩
  · have e0 : r0_FlowOut a0_0 a0_1 a1 a2 = 0 := if_neg h
    have e2 := sc3_ne h
    rw [e0]
    obtain ⟨v, hv⟩ : ∃ v, v = decide (slOk a0_0 a0_1) := ⟨_, rfl⟩
    obtain ⟨r, hr⟩ : ∃ r, r = decide (two a1 a2) := ⟨_, rfl⟩
    have HV := Lib.hid hv
    have HR := Lib.hid (show r = true ↔ allIn (-2000) 2000 2 [a1, a2] by rw [hr, decide_eq_true_iff]; exact allIn_two.symm)
    have hk : r1_FlowOut a0_0 a0_1 a1 a2 = if v then (if r then 0 else 2) else 1 := by unfold r1_FlowOut sc3; rw [hv, hr]; simp
    have e3 : ((r1_FlowOut a0_0 a0_1 a1 a2) == 0) = false := e2
    generalize r1_FlowOut a0_0 a0_1 a1 a2 = C at *
    have e4 : (C != 0) = true := by simpa using e3
    have HK := Lib.hid hk
    clear h e0 e2 hv hr hk
    go_enter Try.func11, Try.ntmps11
    go_wp2_with (first | (go_at_call 41; refine (sluI_any _ _ _ v HV.out).mono ?_; rintro ec wc ⟨rfl, bc⟩; have dc : Below w.heap.size w wc := (by repeat (first | assumption | exact Below.refl _ _ | (refine Below.trans ?_ (bc.mono (by first | omega | (simp; done) | (simp; omega)))) | (refine Below.setCell ?_ (by first | omega | (simp; done) | (simp; omega)) _) | apply below_drewN | apply Below.drew | (refine Below.alloc ?_ (by first | omega | (simp; done) | (simp; omega)) _))); have sc : w.heap.size < wc.heap.size := (by have := bc.size; (try simp at this); omega); clear bc) | (go_at_call 42; refine (areLevels_any _ _ _ [a1, a2] _ (by omega) ((rd_two _ _ _ _).mono (by first | omega | (simp; done) | (simp; omega))) r HR.out).mono ?_; rintro ed W2 ⟨rfl, bd⟩; have dd : Below w.heap.size w W2 := (by repeat (first | assumption | exact Below.refl _ _ | (refine Below.trans ?_ (bd.mono (by first | omega | (simp; done) | (simp; omega)))) | (refine Below.trans ?_ (dc.mono (by first | omega | (simp; done) | (simp; omega)))) | (refine Below.setCell ?_ (by first | omega | (simp; done) | (simp; omega)) _) | apply below_drewN | apply Below.drew | (refine Below.alloc ?_ (by first | omega | (simp; done) | (simp; omega)) _)))) | (go_at_call 40; refine (codeFor_k v r _ C HK.out).mono ?_; rintro ee we ⟨rfl, rfl⟩))
    exact bodyPost_ret (v := .tuple #[.int .i64 0, .int .i64 C]) (by simp [results, Try.results11, go_sem]) rfl ⟨rfl, (by repeat (first | assumption | exact Below.refl _ _ | (refine Below.trans ?_ (dd.mono (by first | omega | (simp; done) | (simp; omega)))) | (refine Below.setCell ?_ (by first | omega | (simp; done) | (simp; omega)) _) | apply below_drewN | apply Below.drew | (refine Below.alloc ?_ (by first | omega | (simp; done) | (simp; omega)) _)))⟩

end Go.Proofs.Ytcimigaimlojlaa
