/- The text of a mill. -/
import Derived.Test.YtlkgbemlagfdjabDoorMTx
namespace Go.Proofs.YtlkgbemlagfdjabDoor
open Go.RowKit

def r0_MillText (a0_0 : Int) (a0_1 : Int) (a0_2 : Int) (a0_3 : Int) : ByteArray := if mlOk a0_0 a0_1 a0_2 a0_3 then mT a0_0 a0_1 a0_2 a0_3 else ⟨#[]⟩

set_option maxHeartbeats 800000 in
theorem specC_MillText (a0_0 : Int) (a0_1 : Int) (a0_2 : Int) (a0_3 : Int) (w : World) (ha0_0 : (Lit.int .i64 a0_0).wf = true) (ha0_1 : (Lit.int .i64 a0_1).wf = true) (ha0_2 : (Lit.int .i64 a0_2).wf = true) (ha0_3 : (Lit.int .i64 a0_3).wf = true) :
    Calls Tryd.prog 5 #[.agg #[.int .i64 a0_0, .int .i64 a0_1, .int .i64 a0_2, .int .i64 a0_3]] w fun e w' => e = .returned (.string (r0_MillText a0_0 a0_1 a0_2 a0_3)) ∧ Below w.heap.size w w' := by
  by_cases h : mlOk a0_0 a0_1 a0_2 a0_3
  · rw [show r0_MillText a0_0 a0_1 a0_2 a0_3 = mT a0_0 a0_1 a0_2 a0_3 from if_pos h]
    have HV := Lib.hid (show true = decide (mlOk a0_0 a0_1 a0_2 a0_3) from (decide_eq_true h).symm)
    have HM := Lib.hid h
    obtain ⟨t, ht⟩ : ∃ t, t = mT a0_0 a0_1 a0_2 a0_3 := ⟨_, rfl⟩
    rw [← ht]
    have HQ := Lib.hid ht
    clear h ht
    go_enter Tryd.func5, Tryd.ntmps5
    go_wp2_with (first | (go_at_call 11; refine (mlS_any _ _ _ _ _ _ HV.out).mono ?_; rintro ec wc ⟨rfl, bc⟩; obtain ⟨kc, fc⟩ := bcell bc; have x0 : wc.cell? ⟨w.heap.size, 0, none⟩ = some (.int .i64 a0_0) := (by rw [kc _ _ (by first | omega | (simp; done) | (simp; omega))]; first | (simp; done) | go_simp); have xf0 : wc.frozen? ⟨w.heap.size, 0, none⟩ = false := (by rw [fc _ _ (by first | omega | (simp; done) | (simp; omega))]; first | (simp; done) | go_simp); have x1 : wc.cell? ⟨w.heap.size, 1, none⟩ = some (.int .i64 a0_1) := (by rw [kc _ _ (by first | omega | (simp; done) | (simp; omega))]; first | (simp; done) | go_simp); have xf1 : wc.frozen? ⟨w.heap.size, 1, none⟩ = false := (by rw [fc _ _ (by first | omega | (simp; done) | (simp; omega))]; first | (simp; done) | go_simp); have x2 : wc.cell? ⟨w.heap.size, 2, none⟩ = some (.int .i64 a0_2) := (by rw [kc _ _ (by first | omega | (simp; done) | (simp; omega))]; first | (simp; done) | go_simp); have xf2 : wc.frozen? ⟨w.heap.size, 2, none⟩ = false := (by rw [fc _ _ (by first | omega | (simp; done) | (simp; omega))]; first | (simp; done) | go_simp); have x3 : wc.cell? ⟨w.heap.size, 3, none⟩ = some (.int .i64 a0_3) := (by rw [kc _ _ (by first | omega | (simp; done) | (simp; omega))]; first | (simp; done) | go_simp); have xf3 : wc.frozen? ⟨w.heap.size, 3, none⟩ = false := (by rw [fc _ _ (by first | omega | (simp; done) | (simp; omega))]; first | (simp; done) | go_simp); have dc : Below w.heap.size w wc := (by repeat (first | assumption | exact Below.refl _ _ | (refine Below.trans ?_ (bc.mono (by first | omega | (simp; done) | (simp; omega)))) | (refine Below.setCell ?_ (by first | omega | (simp; done) | (simp; omega)) _) | apply below_drewN | apply Below.drew | (refine Below.alloc ?_ (by first | omega | (simp; done) | (simp; omega)) _))); have sc : w.heap.size < wc.heap.size := (by have := bc.size; (try simp at this); omega); clear kc fc bc) | (go_at_call 12; refine (mtspec _ _ _ _ _ HM.out t HQ.out).mono ?_; rintro ef wf ⟨rfl, bf⟩))
    go_ret
    exact ⟨rfl, (by repeat (first | assumption | exact Below.refl _ _ | (refine Below.trans ?_ (bf.mono (by first | omega | (simp; done) | (simp; omega)))) | (refine Below.trans ?_ (dc.mono (by first | omega | (simp; done) | (simp; omega)))) | (refine Below.setCell ?_ (by first | omega | (simp; done) | (simp; omega)) _) | apply below_drewN | apply Below.drew | (refine Below.alloc ?_ (by first | omega | (simp; done) | (simp; omega)) _)))⟩
  · rw [show r0_MillText a0_0 a0_1 a0_2 a0_3 = ⟨#[]⟩ from if_neg h]
    have HV := Lib.hid (show false = decide (mlOk a0_0 a0_1 a0_2 a0_3) from (decide_eq_false h).symm)
    clear h
    go_enter Tryd.func5, Tryd.ntmps5
    go_wp2_with (go_at_call 11; refine (mlS_any _ _ _ _ _ _ HV.out).mono ?_; rintro e0 W0 ⟨rfl, b0⟩)
    go_ret
    exact ⟨rfl, (by repeat (first | assumption | exact Below.refl _ _ | (refine Below.trans ?_ (b0.mono (by first | omega | (simp; done) | (simp; omega)))) | (refine Below.setCell ?_ (by first | omega | (simp; done) | (simp; omega)) _) | apply below_drewN | apply Below.drew | (refine Below.alloc ?_ (by first | omega | (simp; done) | (simp; omega)) _)))⟩

set_option maxHeartbeats 800000 in
theorem implC_MillText (a0_0 : Int) (a0_1 : Int) (a0_2 : Int) (a0_3 : Int) (w : World) (ha0_0 : (Lit.int .i64 a0_0).wf = true) (ha0_1 : (Lit.int .i64 a0_1).wf = true) (ha0_2 : (Lit.int .i64 a0_2).wf = true) (ha0_3 : (Lit.int .i64 a0_3).wf = true) (hpow : PowTab w) :
    Calls Tryd.prog 7 #[.agg #[.int .i64 a0_0, .int .i64 a0_1, .int .i64 a0_2, .int .i64 a0_3]] w fun e w' => e = .returned (.string (r0_MillText a0_0 a0_1 a0_2 a0_3)) ∧ Below w.heap.size w w' := by
  by_cases h : mlOk a0_0 a0_1 a0_2 a0_3
  · rw [show r0_MillText a0_0 a0_1 a0_2 a0_3 = mT a0_0 a0_1 a0_2 a0_3 from if_pos h]
    exact mtimpl a0_0 a0_1 a0_2 a0_3 w hpow h _ rfl
  · rw [show r0_MillText a0_0 a0_1 a0_2 a0_3 = ⟨#[]⟩ from if_neg h]
    have HV := Lib.hid (show false = decide (mlOk a0_0 a0_1 a0_2 a0_3) from (decide_eq_false h).symm)
    clear h
    go_enter Tryd.func7, Tryd.ntmps7
    go_wp2_with (go_at_call 13; refine (mlI_any _ _ _ _ _ _ HV.out).mono ?_; rintro e0 W0 ⟨rfl, b0⟩)
    go_ret
    exact ⟨rfl, (by repeat (first | assumption | exact Below.refl _ _ | (refine Below.trans ?_ (b0.mono (by first | omega | (simp; done) | (simp; omega)))) | (refine Below.setCell ?_ (by first | omega | (simp; done) | (simp; omega)) _) | apply below_drewN | apply Below.drew | (refine Below.alloc ?_ (by first | omega | (simp; done) | (simp; omega)) _)))⟩


end Go.Proofs.YtlkgbemlagfdjabDoor
