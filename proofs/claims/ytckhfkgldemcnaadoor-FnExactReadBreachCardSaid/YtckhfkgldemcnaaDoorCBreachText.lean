/- The text of a breach. -/
import Derived.Test.YtckhfkgldemcnaaDoorBTx
namespace Go.Proofs.YtckhfkgldemcnaaDoor
open Go.RowKit

def r0_BreachText (a0_0 : Int) (a0_1 : Int) (a0_2 : Int) : ByteArray := if tlOk a0_0 a0_1 a0_2 then btT a0_0 a0_1 a0_2 else ⟨#[]⟩

set_option maxHeartbeats 800000 in
theorem specC_BreachText (a0_0 : Int) (a0_1 : Int) (a0_2 : Int) (w : World) (ha0_0 : (Lit.int .i64 a0_0).wf = true) (ha0_1 : (Lit.int .i64 a0_1).wf = true) (ha0_2 : (Lit.int .i64 a0_2).wf = true) :
    Calls Tryd.prog 41 #[.agg #[.int .i64 a0_0, .int .i64 a0_1, .int .i64 a0_2]] w fun e w' => e = .returned (.string (r0_BreachText a0_0 a0_1 a0_2)) ∧ Below w.heap.size w w' := by
  by_cases h : tlOk a0_0 a0_1 a0_2
  · rw [show r0_BreachText a0_0 a0_1 a0_2 = btT a0_0 a0_1 a0_2 from if_pos h]
    have HV := Lib.hid (show true = decide (tlOk a0_0 a0_1 a0_2) from (decide_eq_true h).symm)
    have HM := Lib.hid h
    obtain ⟨t, ht⟩ : ∃ t, t = btT a0_0 a0_1 a0_2 := ⟨_, rfl⟩
    rw [← ht]
    have HQ := Lib.hid ht
    clear h ht
    go_enter Tryd.func41, Tryd.ntmps41
    go_wp2_with (first | (go_at_call 70; refine (tlS_any _ _ _ _ _ HV.out).mono ?_; rintro ec wc ⟨rfl, bc⟩; obtain ⟨kc, fc⟩ := bcell bc; have x0 : wc.cell? ⟨w.heap.size, 0, none⟩ = some (.int .i64 a0_0) := (by rw [kc _ _ (by first | omega | (simp; done) | (simp; omega))]; first | (simp; done) | go_simp); have xf0 : wc.frozen? ⟨w.heap.size, 0, none⟩ = false := (by rw [fc _ _ (by first | omega | (simp; done) | (simp; omega))]; first | (simp; done) | go_simp); have x1 : wc.cell? ⟨w.heap.size, 1, none⟩ = some (.int .i64 a0_1) := (by rw [kc _ _ (by first | omega | (simp; done) | (simp; omega))]; first | (simp; done) | go_simp); have xf1 : wc.frozen? ⟨w.heap.size, 1, none⟩ = false := (by rw [fc _ _ (by first | omega | (simp; done) | (simp; omega))]; first | (simp; done) | go_simp); have x2 : wc.cell? ⟨w.heap.size, 2, none⟩ = some (.int .i64 a0_2) := (by rw [kc _ _ (by first | omega | (simp; done) | (simp; omega))]; first | (simp; done) | go_simp); have xf2 : wc.frozen? ⟨w.heap.size, 2, none⟩ = false := (by rw [fc _ _ (by first | omega | (simp; done) | (simp; omega))]; first | (simp; done) | go_simp); have dc : Below w.heap.size w wc := (by repeat (first | assumption | exact Below.refl _ _ | (refine Below.trans ?_ (bc.mono (by first | omega | (simp; done) | (simp; omega)))) | (refine Below.setCell ?_ (by first | omega | (simp; done) | (simp; omega)) _) | apply below_drewN | apply Below.drew | (refine Below.alloc ?_ (by first | omega | (simp; done) | (simp; omega)) _))); have sc : w.heap.size < wc.heap.size := (by have := bc.size; (try simp at this); omega); clear kc fc bc) | (go_at_call 71; refine (btspec _ _ _ _ HM.out t HQ.out).mono ?_; rintro ef wf ⟨rfl, bf⟩))
    go_ret
    exact ⟨rfl, (by repeat (first | assumption | exact Below.refl _ _ | (refine Below.trans ?_ (bf.mono (by first | omega | (simp; done) | (simp; omega)))) | (refine Below.trans ?_ (dc.mono (by first | omega | (simp; done) | (simp; omega)))) | (refine Below.setCell ?_ (by first | omega | (simp; done) | (simp; omega)) _) | apply below_drewN | apply Below.drew | (refine Below.alloc ?_ (by first | omega | (simp; done) | (simp; omega)) _)))⟩
  · rw [show r0_BreachText a0_0 a0_1 a0_2 = ⟨#[]⟩ from if_neg h]
    have HV := Lib.hid (show false = decide (tlOk a0_0 a0_1 a0_2) from (decide_eq_false h).symm)
    clear h
    go_enter Tryd.func41, Tryd.ntmps41
    go_wp2_with (go_at_call 70; refine (tlS_any _ _ _ _ _ HV.out).mono ?_; rintro e0 W0 ⟨rfl, b0⟩)
    go_ret
    exact ⟨rfl, (by repeat (first | assumption | exact Below.refl _ _ | (refine Below.trans ?_ (b0.mono (by first | omega | (simp; done) | (simp; omega)))) | (refine Below.setCell ?_ (by first | omega | (simp; done) | (simp; omega)) _) | apply below_drewN | apply Below.drew | (refine Below.alloc ?_ (by first | omega | (simp; done) | (simp; omega)) _)))⟩

set_option maxHeartbeats 800000 in
theorem implC_BreachText (a0_0 : Int) (a0_1 : Int) (a0_2 : Int) (w : World) (ha0_0 : (Lit.int .i64 a0_0).wf = true) (ha0_1 : (Lit.int .i64 a0_1).wf = true) (ha0_2 : (Lit.int .i64 a0_2).wf = true) (hpow : PowTab w) :
    Calls Tryd.prog 42 #[.agg #[.int .i64 a0_0, .int .i64 a0_1, .int .i64 a0_2]] w fun e w' => e = .returned (.string (r0_BreachText a0_0 a0_1 a0_2)) ∧ Below w.heap.size w w' := by
  by_cases h : tlOk a0_0 a0_1 a0_2
  · rw [show r0_BreachText a0_0 a0_1 a0_2 = btT a0_0 a0_1 a0_2 from if_pos h]
    exact btimpl a0_0 a0_1 a0_2 w hpow h _ rfl
  · rw [show r0_BreachText a0_0 a0_1 a0_2 = ⟨#[]⟩ from if_neg h]
    have HV := Lib.hid (show false = decide (tlOk a0_0 a0_1 a0_2) from (decide_eq_false h).symm)
    clear h
    go_enter Tryd.func42, Tryd.ntmps42
    go_wp2_with (go_at_call 72; refine (tlI_any _ _ _ _ _ HV.out).mono ?_; rintro e0 W0 ⟨rfl, b0⟩)
    go_ret
    exact ⟨rfl, (by repeat (first | assumption | exact Below.refl _ _ | (refine Below.trans ?_ (b0.mono (by first | omega | (simp; done) | (simp; omega)))) | (refine Below.setCell ?_ (by first | omega | (simp; done) | (simp; omega)) _) | apply below_drewN | apply Below.drew | (refine Below.alloc ?_ (by first | omega | (simp; done) | (simp; omega)) _)))⟩


end Go.Proofs.YtckhfkgldemcnaaDoor
