import Derived.Test.YtfpfmfhhcgafcaaWatI
import Derived.Test.YtfpfmfhhcgafcaaWatS
namespace Go.Proofs.Ytfpfmfhhcgafcaa
open Go.RowKit

def r0_NetOf (a0_0 : Int) (a0_1 : Int) (a0_2 : Int) (a0_3 : Int) (a0_4 : Int) : Int := if waOk a0_0 a0_1 a0_2 a0_3 a0_4 then netW ⟨a0_0, a0_1, a0_2, a0_3, a0_4⟩ else 0
def r1_NetOf (a0_0 : Int) (a0_1 : Int) (a0_2 : Int) (a0_3 : Int) (a0_4 : Int) : Int := if waOk a0_0 a0_1 a0_2 a0_3 a0_4 then 0 else 1
theorem wa_any {x0 x1 x2 x3 x4 : Int} (h : waOk x0 x1 x2 x3 x4) : -10000000000 ≤ x0 ∧ x0 ≤ 10000000000 ∧ -10000000000 ≤ x1 ∧ x1 ≤ 10000000000 ∧ -10000000000 ≤ x2 ∧ x2 ≤ 10000000000 ∧ -10000000000 ≤ x3 ∧ x3 ≤ 10000000000 ∧ -10000000000 ≤ x4 ∧ x4 ≤ 10000000000 := by
  obtain ⟨h0, h1, h2, h3, h4⟩ := h
  omega

set_option maxHeartbeats 800000 in
theorem specC_NetOf (a0_0 : Int) (a0_1 : Int) (a0_2 : Int) (a0_3 : Int) (a0_4 : Int) (w : World) (ha0_0 : (Lit.int .i64 a0_0).wf = true) (ha0_1 : (Lit.int .i64 a0_1).wf = true) (ha0_2 : (Lit.int .i64 a0_2).wf = true) (ha0_3 : (Lit.int .i64 a0_3).wf = true) (ha0_4 : (Lit.int .i64 a0_4).wf = true) :
    Calls Try.prog 21 #[.agg #[.int .i64 a0_0, .int .i64 a0_1, .int .i64 a0_2, .int .i64 a0_3, .int .i64 a0_4]] w fun e w' => e = .returned (.tuple #[.int .i64 (r0_NetOf a0_0 a0_1 a0_2 a0_3 a0_4), .int .i64 (r1_NetOf a0_0 a0_1 a0_2 a0_3 a0_4)]) ∧ Below w.heap.size w w' := by
  by_cases h : waOk a0_0 a0_1 a0_2 a0_3 a0_4
  · have e0 : r0_NetOf a0_0 a0_1 a0_2 a0_3 a0_4 = netW ⟨a0_0, a0_1, a0_2, a0_3, a0_4⟩ := if_pos h
    have e1 : r1_NetOf a0_0 a0_1 a0_2 a0_3 a0_4 = 0 := if_pos h
    rw [e0, e1]
    obtain ⟨m, hm⟩ : ∃ m, m = netW ⟨a0_0, a0_1, a0_2, a0_3, a0_4⟩ := ⟨_, rfl⟩
    rw [← hm]
    have HM := Lib.hid hm
    have HW := Lib.hid (wa_any h)
    have HT := Lib.hid (show true = decide (waOk a0_0 a0_1 a0_2 a0_3 a0_4) from (decide_eq_true h).symm)
    clear e0 e1 h hm
    go_enter Try.func21, Try.ntmps21
    go_wp2_with (first | (go_at_call 43; refine (waS_any _ _ a0_0 a0_1 a0_2 a0_3 a0_4 _ (by simp [AtWater]) true HT.out).mono ?_; rintro e1 w1 ⟨rfl, rfl⟩) | (go_at_call 46; refine (netS_t _ _ a0_0 a0_1 a0_2 a0_3 a0_4 _ (by simp [AtWater]) HW.out m HM.out).mono ?_; rintro e2 w2 ⟨rfl, b2⟩))
    go_ret2
    exact ⟨rfl, (by repeat (first | assumption | exact Below.refl _ _ | (refine Below.trans ?_ (b2.mono (by first | omega | (simp; done) | (simp; omega)))) | (refine Below.setCell ?_ (by first | omega | (simp; done) | (simp; omega)) _) | apply below_drewN | apply Below.drew | (refine Below.alloc ?_ (by first | omega | (simp; done) | (simp; omega)) _)))⟩
  · have e0 : r0_NetOf a0_0 a0_1 a0_2 a0_3 a0_4 = 0 := if_neg h
    have e1 : r1_NetOf a0_0 a0_1 a0_2 a0_3 a0_4 = 1 := if_neg h
    rw [e0, e1]
    have HT := Lib.hid (show false = decide (waOk a0_0 a0_1 a0_2 a0_3 a0_4) from (decide_eq_false h).symm)
    clear e0 e1 h
    go_enter Try.func21, Try.ntmps21
    go_wp2_with (first | (go_at_call 43; refine (waS_any _ _ a0_0 a0_1 a0_2 a0_3 a0_4 _ (by simp [AtWater]) false HT.out).mono ?_; rintro e1 w1 ⟨rfl, rfl⟩))
    go_ret2
    exact ⟨rfl, (by repeat (first | assumption | exact Below.refl _ _ | (refine Below.setCell ?_ (by first | omega | (simp; done) | (simp; omega)) _) | apply below_drewN | apply Below.drew | (refine Below.alloc ?_ (by first | omega | (simp; done) | (simp; omega)) _)))⟩

set_option maxHeartbeats 800000 in
theorem implC_NetOf (a0_0 : Int) (a0_1 : Int) (a0_2 : Int) (a0_3 : Int) (a0_4 : Int) (w : World) (ha0_0 : (Lit.int .i64 a0_0).wf = true) (ha0_1 : (Lit.int .i64 a0_1).wf = true) (ha0_2 : (Lit.int .i64 a0_2).wf = true) (ha0_3 : (Lit.int .i64 a0_3).wf = true) (ha0_4 : (Lit.int .i64 a0_4).wf = true) :
    Calls Try.prog 22 #[.agg #[.int .i64 a0_0, .int .i64 a0_1, .int .i64 a0_2, .int .i64 a0_3, .int .i64 a0_4]] w fun e w' => e = .returned (.tuple #[.int .i64 (r0_NetOf a0_0 a0_1 a0_2 a0_3 a0_4), .int .i64 (r1_NetOf a0_0 a0_1 a0_2 a0_3 a0_4)]) ∧ Below w.heap.size w w' := by
  by_cases h : waOk a0_0 a0_1 a0_2 a0_3 a0_4
  · have e0 : r0_NetOf a0_0 a0_1 a0_2 a0_3 a0_4 = netW ⟨a0_0, a0_1, a0_2, a0_3, a0_4⟩ := if_pos h
    have e1 : r1_NetOf a0_0 a0_1 a0_2 a0_3 a0_4 = 0 := if_pos h
    rw [e0, e1]
    obtain ⟨m, hm⟩ : ∃ m, m = netW ⟨a0_0, a0_1, a0_2, a0_3, a0_4⟩ := ⟨_, rfl⟩
    rw [← hm]
    have HM := Lib.hid hm
    have HW := Lib.hid (wa_small h)
    have HT := Lib.hid (show true = decide (waOk a0_0 a0_1 a0_2 a0_3 a0_4) from (decide_eq_true h).symm)
    clear e0 e1 h hm
    go_enter Try.func22, Try.ntmps22
    go_wp2_with (first | (go_at_call 15; refine (waI_any a0_0 a0_1 a0_2 a0_3 a0_4 _ true HT.out).mono ?_; rintro e1 w1 ⟨rfl, b1⟩; obtain ⟨k1, f1⟩ := bcell b1; have s2 : w.heap.size < w1.heap.size := (by have := b1.size; simp at this; omega); have z0 : w1.cell? ⟨w.heap.size, 0, none⟩ = some (.int .i64 a0_0) := (by rw [k1 _ _ (by first | omega | (simp; done) | (simp; omega))]; first | (simp; done) | go_simp); have zf0 : w1.frozen? ⟨w.heap.size, 0, none⟩ = false := (by rw [f1 _ _ (by first | omega | (simp; done) | (simp; omega))]; first | (simp; done) | go_simp); have z1 : w1.cell? ⟨w.heap.size, 1, none⟩ = some (.int .i64 a0_1) := (by rw [k1 _ _ (by first | omega | (simp; done) | (simp; omega))]; first | (simp; done) | go_simp); have zf1 : w1.frozen? ⟨w.heap.size, 1, none⟩ = false := (by rw [f1 _ _ (by first | omega | (simp; done) | (simp; omega))]; first | (simp; done) | go_simp); have z2 : w1.cell? ⟨w.heap.size, 2, none⟩ = some (.int .i64 a0_2) := (by rw [k1 _ _ (by first | omega | (simp; done) | (simp; omega))]; first | (simp; done) | go_simp); have zf2 : w1.frozen? ⟨w.heap.size, 2, none⟩ = false := (by rw [f1 _ _ (by first | omega | (simp; done) | (simp; omega))]; first | (simp; done) | go_simp); have z3 : w1.cell? ⟨w.heap.size, 3, none⟩ = some (.int .i64 a0_3) := (by rw [k1 _ _ (by first | omega | (simp; done) | (simp; omega))]; first | (simp; done) | go_simp); have zf3 : w1.frozen? ⟨w.heap.size, 3, none⟩ = false := (by rw [f1 _ _ (by first | omega | (simp; done) | (simp; omega))]; first | (simp; done) | go_simp); have z4 : w1.cell? ⟨w.heap.size, 4, none⟩ = some (.int .i64 a0_4) := (by rw [k1 _ _ (by first | omega | (simp; done) | (simp; omega))]; first | (simp; done) | go_simp); have zf4 : w1.frozen? ⟨w.heap.size, 4, none⟩ = false := (by rw [f1 _ _ (by first | omega | (simp; done) | (simp; omega))]; first | (simp; done) | go_simp); clear k1 f1; have d1 : Below w.heap.size w w1 := (by repeat (first | assumption | exact Below.refl _ _ | (refine Below.trans ?_ (b1.mono (by first | omega | (simp; done) | (simp; omega)))) | (refine Below.setCell ?_ (by first | omega | (simp; done) | (simp; omega)) _) | apply below_drewN | apply Below.drew | (refine Below.alloc ?_ (by first | omega | (simp; done) | (simp; omega)) _)))) | (go_at_call 47; refine (netI_t a0_0 a0_1 a0_2 a0_3 a0_4 _ HW.out m HM.out).mono ?_; rintro e2 w2 ⟨rfl, b2⟩))
    go_ret2
    exact ⟨rfl, (by repeat (first | assumption | exact Below.refl _ _ | (refine Below.trans ?_ (b2.mono (by first | omega | (simp; done) | (simp; omega)))) | (refine Below.trans ?_ (d1.mono (by first | omega | (simp; done) | (simp; omega)))) | (refine Below.setCell ?_ (by first | omega | (simp; done) | (simp; omega)) _) | apply below_drewN | apply Below.drew | (refine Below.alloc ?_ (by first | omega | (simp; done) | (simp; omega)) _)))⟩
  · have e0 : r0_NetOf a0_0 a0_1 a0_2 a0_3 a0_4 = 0 := if_neg h
    have e1 : r1_NetOf a0_0 a0_1 a0_2 a0_3 a0_4 = 1 := if_neg h
    rw [e0, e1]
    have HT := Lib.hid (show false = decide (waOk a0_0 a0_1 a0_2 a0_3 a0_4) from (decide_eq_false h).symm)
    clear e0 e1 h
    go_enter Try.func22, Try.ntmps22
    go_wp2_with (first | (go_at_call 15; refine (waI_any a0_0 a0_1 a0_2 a0_3 a0_4 _ false HT.out).mono ?_; rintro e1 w1 ⟨rfl, b1⟩))
    go_ret2
    exact ⟨rfl, (by repeat (first | assumption | exact Below.refl _ _ | (refine Below.trans ?_ (b1.mono (by first | omega | (simp; done) | (simp; omega)))) | (refine Below.setCell ?_ (by first | omega | (simp; done) | (simp; omega)) _) | apply below_drewN | apply Below.drew | (refine Below.alloc ?_ (by first | omega | (simp; done) | (simp; omega)) _)))⟩

end Go.Proofs.Ytfpfmfhhcgafcaa
