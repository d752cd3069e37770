/- StonesNeeded: of a breach that stones close. -/
import Derived.Test.YtckhfkgldemcnaaDoorBreN
namespace Go.Proofs.YtckhfkgldemcnaaDoor
open Go.RowKit

def r0_StonesNeeded (xa0_0 : List Int) (xa0_1 : List Int) (a1_0 : Int) (a1_1 : Int) (a1_2 : Int) (xa2 : List Int) (a3 : Int) : Int := hcZ xa0_0 xa0_1 a1_0 a1_1 a1_2 xa2 a3
def r1_StonesNeeded (xa0_0 : List Int) (xa0_1 : List Int) (a1_0 : Int) (a1_1 : Int) (a1_2 : Int) (xa2 : List Int) (a3 : Int) : Int := hcK xa0_0 xa0_1 a1_0 a1_1 a1_2 xa2 a3

set_option maxRecDepth 100000 in
set_option maxHeartbeats 3200000 in
theorem specC_StonesNeeded (a0_0 : Option Addr) (la0_0 ca0_0 : Nat) (xa0_0 : List Int) (a0_1 : Option Addr) (la0_1 ca0_1 : Nat) (xa0_1 : List Int) (a1_0 : Int) (a1_1 : Int) (a1_2 : Int) (a2 : Option Addr) (la2 ca2 : Nat) (xa2 : List Int) (a3 : Int) (w : World) (ha0_0 : la0_0 ≤ 1048576) (ra0_0 : Rd w w.heap.size a0_0 la0_0 xa0_0) (fa0_0 : Wf xa0_0) (ha0_1 : la0_1 ≤ 1048576) (ra0_1 : Rd w w.heap.size a0_1 la0_1 xa0_1) (fa0_1 : Wf xa0_1) (ha1_0 : (Lit.int .i64 a1_0).wf = true) (ha1_1 : (Lit.int .i64 a1_1).wf = true) (ha1_2 : (Lit.int .i64 a1_2).wf = true) (ha2 : la2 ≤ 1048576) (ra2 : Rd w w.heap.size a2 la2 xa2) (fa2 : Wf xa2) (ha3 : (Lit.int .i64 a3).wf = true) :
    Calls Tryd.prog 39 #[.agg #[.slice a0_0 la0_0 ca0_0, .slice a0_1 la0_1 ca0_1], .agg #[.int .i64 a1_0, .int .i64 a1_1, .int .i64 a1_2], .slice a2 la2 ca2, .int .i64 a3] w fun e w' => e = .returned (.tuple #[.int .i64 (r0_StonesNeeded xa0_0 xa0_1 a1_0 a1_1 a1_2 xa2 a3), .int .i64 (r1_StonesNeeded xa0_0 xa0_1 a1_0 a1_1 a1_2 xa2 a3)]) ∧ Below w.heap.size w w' := by
  have RA := Lib.hid ra0_0
  have RB := Lib.hid ra0_1
  have RO := Lib.hid ra2
  clear ra0_0 ra0_1 ra2
  have hlo := RO.out.1
  obtain ⟨R0, hR0⟩ : ∃ R, R = r0_StonesNeeded xa0_0 xa0_1 a1_0 a1_1 a1_2 xa2 a3 := ⟨_, rfl⟩
  obtain ⟨R1, hR1⟩ : ∃ R, R = r1_StonesNeeded xa0_0 xa0_1 a1_0 a1_1 a1_2 xa2 a3 := ⟨_, rfl⟩
  rw [← hR0, ← hR1]
  by_cases h : brOk xa0_0 xa0_1 a1_0 a1_1 a1_2 ∧ stepsOk xa2 ∧ stoOk a3
  · have HB := Lib.hid h.1
    have HO := Lib.hid h.2.1
    have HS := Lib.hid h.2.2
    have HK := Lib.hid (show (0 : Int) = bcode xa0_0 xa0_1 a1_0 a1_1 a1_2 (stepsOk xa2 ∧ stoOk a3) from (by unfold bcode; rw [if_pos h.1, if_pos h.2]))
    have HV := Lib.hid (show true = decide (stoOk a3) from (decide_eq_true h.2.2).symm)
    have HP := Lib.hid (show true = decide (stoOk a3) from (decide_eq_true h.2.2).symm)
    obtain ⟨cH, hcH'⟩ : ∃ v, v = cloH xa0_0 xa0_1 a1_0 a1_1 a1_2 xa2 a3 := ⟨_, rfl⟩
    obtain ⟨cZ, hcZ'⟩ : ∃ v, v = cloZ xa0_0 xa0_1 a1_0 a1_1 a1_2 xa2 a3 := ⟨_, rfl⟩
    have EH := Lib.hid hcH'
    have EZ := Lib.hid hcZ'
    by_cases hc : cloF xa0_0 xa0_1 a1_0 a1_1 a1_2 xa2 a3 ≤ xa2.length
    · have ER := Lib.hid (show R0 = cZ ∧ R1 = 0 by
        rw [hR0, hR1, hcZ']; unfold r0_StonesNeeded r1_StonesNeeded hcZ hcK cloZ
        rw [if_pos ⟨h, hc⟩, if_pos hc, if_neg (fun g => by omega)]
        exact ⟨rfl, HK.out.symm⟩)
      have g1 : ¬ (cH < 0) := by rw [hcH']; unfold cloH; rw [if_pos hc]; omega
      have g2 : 0 ≤ cH := by omega
      clear h hc hR0 hR1 hcH' hcZ'
      go_enter Tryd.func39, Tryd.ntmps39
      go_wp2_with fail
      refine wp_region_held_drew (S := fun w' => w'.cell? ⟨w.heap.size, 0, none⟩ = some (.slice a0_0 la0_0 ca0_0) ∧ w'.cell? ⟨w.heap.size, 1, none⟩ = some (.slice a0_1 la0_1 ca0_1) ∧ w'.cell? ⟨w.heap.size + 1, 0, none⟩ = some (.int .i64 a1_0) ∧ w'.cell? ⟨w.heap.size + 1, 1, none⟩ = some (.int .i64 a1_1) ∧ w'.cell? ⟨w.heap.size + 1, 2, none⟩ = some (.int .i64 a1_2)) (by kernel_rfl) ⟨by first | (simp; done) | go_simp, by first | (simp; done) | go_simp, by first | (simp; done) | go_simp, by first | (simp; done) | go_simp, by first | (simp; done) | go_simp⟩ (fun hHeld => ?_)
      ((refine wpAnyH_take (i := 0) (oi := ⟨some 13, _, _, _, _, _⟩) (v := ?_) rfl (by kernel_rfl) (by kernel_rfl) (by kernel_rfl) (fun _ _ _ h => h) (Or.inl ⟨by rfl, ?_⟩) (by assumption) ?_; rotate_left 1; (focus (intro w hSw; (try dsimp only at hSw); go_simp <;> try (first | (with_reducible rfl) | (rw [if_neg (by omega)]) | (rw [if_pos (by omega)])))); try simp only [Act.put, List.setIfInBounds_toArray, List.set_cons_zero, List.set_cons_succ]); (refine wpAnyH_take (i := 1) (oi := ⟨some 14, _, _, _, _, _⟩) (v := ?_) rfl (by kernel_rfl) (by kernel_rfl) (by kernel_rfl) (fun _ _ _ h => h) (Or.inl ⟨by rfl, ?_⟩) (by assumption) ?_; rotate_left 1; (focus (intro w hSw; (try dsimp only at hSw); go_simp <;> try (first | (with_reducible rfl) | (rw [if_neg (by omega)]) | (rw [if_pos (by omega)])))); try simp only [Act.put, List.setIfInBounds_toArray, List.set_cons_zero, List.set_cons_succ]); (refine wpAnyH_take (i := 2) (oi := ⟨some 15, _, _, _, _, _⟩) (v := ?_) rfl (by kernel_rfl) (by kernel_rfl) (by kernel_rfl) (fun _ _ _ h => h) (Or.inl ⟨by rfl, ?_⟩) (by assumption) ?_; rotate_left 1; (focus (intro w hSw; (try dsimp only at hSw); go_simp <;> try (first | (with_reducible rfl) | (rw [if_neg (by omega)]) | (rw [if_pos (by omega)])))); try simp only [Act.put, List.setIfInBounds_toArray, List.set_cons_zero, List.set_cons_succ]))
      (refine wpAnyH_ready (rs := [3]) (by kernel_rfl) (by simp) ?_; refine AllReadyH.cons rfl (fun K hK => ?_) AllReadyH.nil; go_simp)
      refine (stS_any a3 _ true HV.out).mono ?_
      rintro e0v V0 ⟨rfl, rfl⟩
      have q0 := hHeld
      clear hHeld
      (refine hK.out _ _ ?_ (fun hHeld => ?_))
      · exact q0
      clear hK K
      (refine wpAnyH_ready (rs := [4]) (by kernel_rfl) (by simp) ?_; refine AllReadyH.cons rfl (fun K hK => ?_) AllReadyH.nil; go_simp)
      refine (l12List_any w.heap.size a0_0 la0_0 ca0_0 xa0_0 a0_1 la0_1 ca0_1 xa0_1 a1_0 a1_1 a1_2 a2 la2 ca2 xa2 true _ (by first | omega | (simp; done) | (simp; omega)) ⟨q0.1, q0.2.1⟩ ha0_0 ha0_1 ha2 ((RA.out.below (by repeat (first | assumption | exact Below.refl _ _ | (refine Below.setCell ?_ (by first | omega | (simp; done) | (simp; omega)) _) | apply below_drewN | apply Below.drew | (refine Below.alloc ?_ (by first | omega | (simp; done) | (simp; omega)) _)))).mono (by first | omega | (simp; done) | (simp; omega))) ((RB.out.below (by repeat (first | assumption | exact Below.refl _ _ | (refine Below.setCell ?_ (by first | omega | (simp; done) | (simp; omega)) _) | apply below_drewN | apply Below.drew | (refine Below.alloc ?_ (by first | omega | (simp; done) | (simp; omega)) _)))).mono (by first | omega | (simp; done) | (simp; omega))) ((RO.out.below (by repeat (first | assumption | exact Below.refl _ _ | (refine Below.setCell ?_ (by first | omega | (simp; done) | (simp; omega)) _) | apply below_drewN | apply Below.drew | (refine Below.alloc ?_ (by first | omega | (simp; done) | (simp; omega)) _)))).mono (by first | omega | (simp; done) | (simp; omega))) (stoOk a3) HP.out 0 HK.out).mono ?_
      rintro e1v V1 ⟨rfl, B1⟩
      have q1_0 := (B1.cell (p := ⟨w.heap.size, 0, none⟩) (by first | omega | (simp; done) | (simp; omega))).trans hHeld.1
      have q1_1 := (B1.cell (p := ⟨w.heap.size, 1, none⟩) (by first | omega | (simp; done) | (simp; omega))).trans hHeld.2.1
      have q1_2 := (B1.cell (p := ⟨w.heap.size + 1, 0, none⟩) (by first | omega | (simp; done) | (simp; omega))).trans hHeld.2.2.1
      have q1_3 := (B1.cell (p := ⟨w.heap.size + 1, 1, none⟩) (by first | omega | (simp; done) | (simp; omega))).trans hHeld.2.2.2.1
      have q1_4 := (B1.cell (p := ⟨w.heap.size + 1, 2, none⟩) (by first | omega | (simp; done) | (simp; omega))).trans hHeld.2.2.2.2
      have fz1 : V1.frozen? ⟨w.heap.size + 1, 0, none⟩ = false ∧ V1.frozen? ⟨w.heap.size + 1, 1, none⟩ = false ∧ V1.frozen? ⟨w.heap.size + 1, 2, none⟩ = false := ⟨(B1.frozen (p := ⟨w.heap.size + 1, 0, none⟩) (by first | omega | (simp; done) | (simp; omega))).trans (by first | (simp; done) | go_simp), (B1.frozen (p := ⟨w.heap.size + 1, 1, none⟩) (by first | omega | (simp; done) | (simp; omega))).trans (by first | (simp; done) | go_simp), (B1.frozen (p := ⟨w.heap.size + 1, 2, none⟩) (by first | omega | (simp; done) | (simp; omega))).trans (by first | (simp; done) | go_simp)⟩
      have G1 : w.heap.size + 1 < V1.heap.size := (by have := B1.size; (try simp at this); omega)
      have D1 : Below w.heap.size w V1 := (by repeat (first | assumption | exact Below.refl _ _ | (refine Below.trans ?_ (B1.mono (by first | omega | (simp; done) | (simp; omega)))) | (refine Below.setCell ?_ (by first | omega | (simp; done) | (simp; omega)) _) | apply below_drewN | apply Below.drew | (refine Below.alloc ?_ (by first | omega | (simp; done) | (simp; omega)) _)))
      clear hHeld
      (refine hK.out _ _ ?_ (fun hHeld => ?_))
      · exact ⟨q1_0, q1_1, q1_2, q1_3, q1_4⟩
      clear hK K
      ((refine wpAnyH_take (i := 5) (oi := ⟨some 10, _, _, _, _, _⟩) (v := ?_) rfl (by kernel_rfl) (by kernel_rfl) (by kernel_rfl) (fun _ _ _ h => h) (Or.inl ⟨by rfl, ?_⟩) (by assumption) ?_; rotate_left 1; (focus (intro w hSw; (try dsimp only at hSw); go_simp <;> try (first | (with_reducible rfl) | (rw [if_neg (by omega)]) | (rw [if_pos (by omega)])))); try simp only [Act.put, List.setIfInBounds_toArray, List.set_cons_zero, List.set_cons_succ]))
      refine wpAnyH_done (by kernel_rfl) ?_ _
      go_wp2_with (go_at_call 66; refine (l12Close_t w.heap.size a0_0 la0_0 ca0_0 xa0_0 a0_1 la0_1 ca0_1 xa0_1 a1_0 a1_1 a1_2 a2 la2 ca2 xa2 a3 _ (by first | omega | (simp; done) | (simp; omega)) ⟨q1_0, q1_1⟩ ha0_0 ha0_1 ((RA.out.below D1).mono (by first | omega | (simp; done) | (simp; omega))) ((RB.out.below D1).mono (by first | omega | (simp; done) | (simp; omega))) ((RO.out.below D1).mono (by first | omega | (simp; done) | (simp; omega))) HB.out HO.out HS.out cH cZ EH.out EZ.out).mono ?_; rintro e2 V2 ⟨rfl, B2⟩; have D2 := Lib.hid (D1.trans (B2.mono (by omega))))
      go_ret2
      exact ⟨ret_pair ER.out.1.symm ER.out.2.symm, D2.out⟩
    · have ER := Lib.hid (show R0 = 0 ∧ R1 = 3 by
        rw [hR0, hR1]; unfold r0_StonesNeeded r1_StonesNeeded hcZ hcK
        rw [if_neg (fun g => hc g.2), if_pos ⟨h, by omega⟩]
        exact ⟨rfl, rfl⟩)
      have g1 : cH < 0 := by rw [hcH']; unfold cloH; rw [if_neg hc]; omega
      clear h hc hR0 hR1 hcH' hcZ'
      go_enter Tryd.func39, Tryd.ntmps39
      go_wp2_with fail
      refine wp_region_held_drew (S := fun w' => w'.cell? ⟨w.heap.size, 0, none⟩ = some (.slice a0_0 la0_0 ca0_0) ∧ w'.cell? ⟨w.heap.size, 1, none⟩ = some (.slice a0_1 la0_1 ca0_1) ∧ w'.cell? ⟨w.heap.size + 1, 0, none⟩ = some (.int .i64 a1_0) ∧ w'.cell? ⟨w.heap.size + 1, 1, none⟩ = some (.int .i64 a1_1) ∧ w'.cell? ⟨w.heap.size + 1, 2, none⟩ = some (.int .i64 a1_2)) (by kernel_rfl) ⟨by first | (simp; done) | go_simp, by first | (simp; done) | go_simp, by first | (simp; done) | go_simp, by first | (simp; done) | go_simp, by first | (simp; done) | go_simp⟩ (fun hHeld => ?_)
      ((refine wpAnyH_take (i := 0) (oi := ⟨some 13, _, _, _, _, _⟩) (v := ?_) rfl (by kernel_rfl) (by kernel_rfl) (by kernel_rfl) (fun _ _ _ h => h) (Or.inl ⟨by rfl, ?_⟩) (by assumption) ?_; rotate_left 1; (focus (intro w hSw; (try dsimp only at hSw); go_simp <;> try (first | (with_reducible rfl) | (rw [if_neg (by omega)]) | (rw [if_pos (by omega)])))); try simp only [Act.put, List.setIfInBounds_toArray, List.set_cons_zero, List.set_cons_succ]); (refine wpAnyH_take (i := 1) (oi := ⟨some 14, _, _, _, _, _⟩) (v := ?_) rfl (by kernel_rfl) (by kernel_rfl) (by kernel_rfl) (fun _ _ _ h => h) (Or.inl ⟨by rfl, ?_⟩) (by assumption) ?_; rotate_left 1; (focus (intro w hSw; (try dsimp only at hSw); go_simp <;> try (first | (with_reducible rfl) | (rw [if_neg (by omega)]) | (rw [if_pos (by omega)])))); try simp only [Act.put, List.setIfInBounds_toArray, List.set_cons_zero, List.set_cons_succ]); (refine wpAnyH_take (i := 2) (oi := ⟨some 15, _, _, _, _, _⟩) (v := ?_) rfl (by kernel_rfl) (by kernel_rfl) (by kernel_rfl) (fun _ _ _ h => h) (Or.inl ⟨by rfl, ?_⟩) (by assumption) ?_; rotate_left 1; (focus (intro w hSw; (try dsimp only at hSw); go_simp <;> try (first | (with_reducible rfl) | (rw [if_neg (by omega)]) | (rw [if_pos (by omega)])))); try simp only [Act.put, List.setIfInBounds_toArray, List.set_cons_zero, List.set_cons_succ]))
      (refine wpAnyH_ready (rs := [3]) (by kernel_rfl) (by simp) ?_; refine AllReadyH.cons rfl (fun K hK => ?_) AllReadyH.nil; go_simp)
      refine (stS_any a3 _ true HV.out).mono ?_
      rintro e0v V0 ⟨rfl, rfl⟩
      have q0 := hHeld
      clear hHeld
      (refine hK.out _ _ ?_ (fun hHeld => ?_))
      · exact q0
      clear hK K
      (refine wpAnyH_ready (rs := [4]) (by kernel_rfl) (by simp) ?_; refine AllReadyH.cons rfl (fun K hK => ?_) AllReadyH.nil; go_simp)
      refine (l12List_any w.heap.size a0_0 la0_0 ca0_0 xa0_0 a0_1 la0_1 ca0_1 xa0_1 a1_0 a1_1 a1_2 a2 la2 ca2 xa2 true _ (by first | omega | (simp; done) | (simp; omega)) ⟨q0.1, q0.2.1⟩ ha0_0 ha0_1 ha2 ((RA.out.below (by repeat (first | assumption | exact Below.refl _ _ | (refine Below.setCell ?_ (by first | omega | (simp; done) | (simp; omega)) _) | apply below_drewN | apply Below.drew | (refine Below.alloc ?_ (by first | omega | (simp; done) | (simp; omega)) _)))).mono (by first | omega | (simp; done) | (simp; omega))) ((RB.out.below (by repeat (first | assumption | exact Below.refl _ _ | (refine Below.setCell ?_ (by first | omega | (simp; done) | (simp; omega)) _) | apply below_drewN | apply Below.drew | (refine Below.alloc ?_ (by first | omega | (simp; done) | (simp; omega)) _)))).mono (by first | omega | (simp; done) | (simp; omega))) ((RO.out.below (by repeat (first | assumption | exact Below.refl _ _ | (refine Below.setCell ?_ (by first | omega | (simp; done) | (simp; omega)) _) | apply below_drewN | apply Below.drew | (refine Below.alloc ?_ (by first | omega | (simp; done) | (simp; omega)) _)))).mono (by first | omega | (simp; done) | (simp; omega))) (stoOk a3) HP.out 0 HK.out).mono ?_
      rintro e1v V1 ⟨rfl, B1⟩
      have q1_0 := (B1.cell (p := ⟨w.heap.size, 0, none⟩) (by first | omega | (simp; done) | (simp; omega))).trans hHeld.1
      have q1_1 := (B1.cell (p := ⟨w.heap.size, 1, none⟩) (by first | omega | (simp; done) | (simp; omega))).trans hHeld.2.1
      have q1_2 := (B1.cell (p := ⟨w.heap.size + 1, 0, none⟩) (by first | omega | (simp; done) | (simp; omega))).trans hHeld.2.2.1
      have q1_3 := (B1.cell (p := ⟨w.heap.size + 1, 1, none⟩) (by first | omega | (simp; done) | (simp; omega))).trans hHeld.2.2.2.1
      have q1_4 := (B1.cell (p := ⟨w.heap.size + 1, 2, none⟩) (by first | omega | (simp; done) | (simp; omega))).trans hHeld.2.2.2.2
      have fz1 : V1.frozen? ⟨w.heap.size + 1, 0, none⟩ = false ∧ V1.frozen? ⟨w.heap.size + 1, 1, none⟩ = false ∧ V1.frozen? ⟨w.heap.size + 1, 2, none⟩ = false := ⟨(B1.frozen (p := ⟨w.heap.size + 1, 0, none⟩) (by first | omega | (simp; done) | (simp; omega))).trans (by first | (simp; done) | go_simp), (B1.frozen (p := ⟨w.heap.size + 1, 1, none⟩) (by first | omega | (simp; done) | (simp; omega))).trans (by first | (simp; done) | go_simp), (B1.frozen (p := ⟨w.heap.size + 1, 2, none⟩) (by first | omega | (simp; done) | (simp; omega))).trans (by first | (simp; done) | go_simp)⟩
      have G1 : w.heap.size + 1 < V1.heap.size := (by have := B1.size; (try simp at this); omega)
      have D1 : Below w.heap.size w V1 := (by repeat (first | assumption | exact Below.refl _ _ | (refine Below.trans ?_ (B1.mono (by first | omega | (simp; done) | (simp; omega)))) | (refine Below.setCell ?_ (by first | omega | (simp; done) | (simp; omega)) _) | apply below_drewN | apply Below.drew | (refine Below.alloc ?_ (by first | omega | (simp; done) | (simp; omega)) _)))
      clear hHeld
      (refine hK.out _ _ ?_ (fun hHeld => ?_))
      · exact ⟨q1_0, q1_1, q1_2, q1_3, q1_4⟩
      clear hK K
      ((refine wpAnyH_take (i := 5) (oi := ⟨some 10, _, _, _, _, _⟩) (v := ?_) rfl (by kernel_rfl) (by kernel_rfl) (by kernel_rfl) (fun _ _ _ h => h) (Or.inl ⟨by rfl, ?_⟩) (by assumption) ?_; rotate_left 1; (focus (intro w hSw; (try dsimp only at hSw); go_simp <;> try (first | (with_reducible rfl) | (rw [if_neg (by omega)]) | (rw [if_pos (by omega)])))); try simp only [Act.put, List.setIfInBounds_toArray, List.set_cons_zero, List.set_cons_succ]))
      refine wpAnyH_done (by kernel_rfl) ?_ _
      go_wp2_with (go_at_call 66; refine (l12Close_t w.heap.size a0_0 la0_0 ca0_0 xa0_0 a0_1 la0_1 ca0_1 xa0_1 a1_0 a1_1 a1_2 a2 la2 ca2 xa2 a3 _ (by first | omega | (simp; done) | (simp; omega)) ⟨q1_0, q1_1⟩ ha0_0 ha0_1 ((RA.out.below D1).mono (by first | omega | (simp; done) | (simp; omega))) ((RB.out.below D1).mono (by first | omega | (simp; done) | (simp; omega))) ((RO.out.below D1).mono (by first | omega | (simp; done) | (simp; omega))) HB.out HO.out HS.out cH cZ EH.out EZ.out).mono ?_; rintro e2 V2 ⟨rfl, B2⟩; have D2 := Lib.hid (D1.trans (B2.mono (by omega))))
      go_ret2
      exact ⟨ret_pair ER.out.1.symm ER.out.2.symm, D2.out⟩
  · obtain ⟨t, ht⟩ : ∃ t, t = decide (stoOk a3) := ⟨_, rfl⟩
    have HV := Lib.hid (show t = decide (stoOk a3) ∧ True from ⟨ht, trivial⟩)
    obtain ⟨k, hk⟩ : ∃ k, k = bcode xa0_0 xa0_1 a1_0 a1_1 a1_2 (stepsOk xa2 ∧ stoOk a3) := ⟨_, rfl⟩
    have hn := bcode_n h
    rw [← hk] at hn
    have HK := Lib.hid hk
    have ER := Lib.hid (show R0 = 0 ∧ R1 = k by rw [hR0, hR1]; unfold r0_StonesNeeded r1_StonesNeeded hcZ hcK; rw [if_neg (fun g => h g.1), if_neg (fun g => h g.1)]; exact ⟨rfl, hk.symm⟩)
    clear h hR0 hR1 ht hk
    go_enter Tryd.func39, Tryd.ntmps39
    go_wp2_with fail
    refine wp_region_held_drew (S := fun w' => w'.cell? ⟨w.heap.size, 0, none⟩ = some (.slice a0_0 la0_0 ca0_0) ∧ w'.cell? ⟨w.heap.size, 1, none⟩ = some (.slice a0_1 la0_1 ca0_1) ∧ w'.cell? ⟨w.heap.size + 1, 0, none⟩ = some (.int .i64 a1_0) ∧ w'.cell? ⟨w.heap.size + 1, 1, none⟩ = some (.int .i64 a1_1) ∧ w'.cell? ⟨w.heap.size + 1, 2, none⟩ = some (.int .i64 a1_2)) (by kernel_rfl) ⟨by first | (simp; done) | go_simp, by first | (simp; done) | go_simp, by first | (simp; done) | go_simp, by first | (simp; done) | go_simp, by first | (simp; done) | go_simp⟩ (fun hHeld => ?_)
    ((refine wpAnyH_take (i := 0) (oi := ⟨some 13, _, _, _, _, _⟩) (v := ?_) rfl (by kernel_rfl) (by kernel_rfl) (by kernel_rfl) (fun _ _ _ h => h) (Or.inl ⟨by rfl, ?_⟩) (by assumption) ?_; rotate_left 1; (focus (intro w hSw; (try dsimp only at hSw); go_simp <;> try (first | (with_reducible rfl) | (rw [if_neg (by omega)]) | (rw [if_pos (by omega)])))); try simp only [Act.put, List.setIfInBounds_toArray, List.set_cons_zero, List.set_cons_succ]); (refine wpAnyH_take (i := 1) (oi := ⟨some 14, _, _, _, _, _⟩) (v := ?_) rfl (by kernel_rfl) (by kernel_rfl) (by kernel_rfl) (fun _ _ _ h => h) (Or.inl ⟨by rfl, ?_⟩) (by assumption) ?_; rotate_left 1; (focus (intro w hSw; (try dsimp only at hSw); go_simp <;> try (first | (with_reducible rfl) | (rw [if_neg (by omega)]) | (rw [if_pos (by omega)])))); try simp only [Act.put, List.setIfInBounds_toArray, List.set_cons_zero, List.set_cons_succ]); (refine wpAnyH_take (i := 2) (oi := ⟨some 15, _, _, _, _, _⟩) (v := ?_) rfl (by kernel_rfl) (by kernel_rfl) (by kernel_rfl) (fun _ _ _ h => h) (Or.inl ⟨by rfl, ?_⟩) (by assumption) ?_; rotate_left 1; (focus (intro w hSw; (try dsimp only at hSw); go_simp <;> try (first | (with_reducible rfl) | (rw [if_neg (by omega)]) | (rw [if_pos (by omega)])))); try simp only [Act.put, List.setIfInBounds_toArray, List.set_cons_zero, List.set_cons_succ]))
    (refine wpAnyH_ready (rs := [3]) (by kernel_rfl) (by simp) ?_; refine AllReadyH.cons rfl (fun K hK => ?_) AllReadyH.nil; go_simp)
    refine (stS_any a3 _ t HV.out.1).mono ?_
    rintro e0v V0 ⟨rfl, rfl⟩
    have q0 := hHeld
    clear hHeld
    (refine hK.out _ _ ?_ (fun hHeld => ?_))
    · exact q0
    clear hK K
    (refine wpAnyH_ready (rs := [4]) (by kernel_rfl) (by simp) ?_; refine AllReadyH.cons rfl (fun K hK => ?_) AllReadyH.nil; go_simp)
    refine (l12List_any w.heap.size a0_0 la0_0 ca0_0 xa0_0 a0_1 la0_1 ca0_1 xa0_1 a1_0 a1_1 a1_2 a2 la2 ca2 xa2 t _ (by first | omega | (simp; done) | (simp; omega)) ⟨q0.1, q0.2.1⟩ ha0_0 ha0_1 ha2 ((RA.out.below (by repeat (first | assumption | exact Below.refl _ _ | (refine Below.setCell ?_ (by first | omega | (simp; done) | (simp; omega)) _) | apply below_drewN | apply Below.drew | (refine Below.alloc ?_ (by first | omega | (simp; done) | (simp; omega)) _)))).mono (by first | omega | (simp; done) | (simp; omega))) ((RB.out.below (by repeat (first | assumption | exact Below.refl _ _ | (refine Below.setCell ?_ (by first | omega | (simp; done) | (simp; omega)) _) | apply below_drewN | apply Below.drew | (refine Below.alloc ?_ (by first | omega | (simp; done) | (simp; omega)) _)))).mono (by first | omega | (simp; done) | (simp; omega))) ((RO.out.below (by repeat (first | assumption | exact Below.refl _ _ | (refine Below.setCell ?_ (by first | omega | (simp; done) | (simp; omega)) _) | apply below_drewN | apply Below.drew | (refine Below.alloc ?_ (by first | omega | (simp; done) | (simp; omega)) _)))).mono (by first | omega | (simp; done) | (simp; omega))) (stoOk a3) HV.out.1 k HK.out).mono ?_
    rintro e1v V1 ⟨rfl, B1⟩
    have q1_0 := (B1.cell (p := ⟨w.heap.size, 0, none⟩) (by first | omega | (simp; done) | (simp; omega))).trans hHeld.1
    have q1_1 := (B1.cell (p := ⟨w.heap.size, 1, none⟩) (by first | omega | (simp; done) | (simp; omega))).trans hHeld.2.1
    have q1_2 := (B1.cell (p := ⟨w.heap.size + 1, 0, none⟩) (by first | omega | (simp; done) | (simp; omega))).trans hHeld.2.2.1
    have q1_3 := (B1.cell (p := ⟨w.heap.size + 1, 1, none⟩) (by first | omega | (simp; done) | (simp; omega))).trans hHeld.2.2.2.1
    have q1_4 := (B1.cell (p := ⟨w.heap.size + 1, 2, none⟩) (by first | omega | (simp; done) | (simp; omega))).trans hHeld.2.2.2.2
    have fz1 : V1.frozen? ⟨w.heap.size + 1, 0, none⟩ = false ∧ V1.frozen? ⟨w.heap.size + 1, 1, none⟩ = false ∧ V1.frozen? ⟨w.heap.size + 1, 2, none⟩ = false := ⟨(B1.frozen (p := ⟨w.heap.size + 1, 0, none⟩) (by first | omega | (simp; done) | (simp; omega))).trans (by first | (simp; done) | go_simp), (B1.frozen (p := ⟨w.heap.size + 1, 1, none⟩) (by first | omega | (simp; done) | (simp; omega))).trans (by first | (simp; done) | go_simp), (B1.frozen (p := ⟨w.heap.size + 1, 2, none⟩) (by first | omega | (simp; done) | (simp; omega))).trans (by first | (simp; done) | go_simp)⟩
    have G1 : w.heap.size + 1 < V1.heap.size := (by have := B1.size; (try simp at this); omega)
    have D1 : Below w.heap.size w V1 := (by repeat (first | assumption | exact Below.refl _ _ | (refine Below.trans ?_ (B1.mono (by first | omega | (simp; done) | (simp; omega)))) | (refine Below.setCell ?_ (by first | omega | (simp; done) | (simp; omega)) _) | apply below_drewN | apply Below.drew | (refine Below.alloc ?_ (by first | omega | (simp; done) | (simp; omega)) _)))
    clear hHeld
    (refine hK.out _ _ ?_ (fun hHeld => ?_))
    · exact ⟨q1_0, q1_1, q1_2, q1_3, q1_4⟩
    clear hK K
    ((refine wpAnyH_take (i := 5) (oi := ⟨some 10, _, _, _, _, _⟩) (v := ?_) rfl (by kernel_rfl) (by kernel_rfl) (by kernel_rfl) (fun _ _ _ h => h) (Or.inl ⟨by rfl, ?_⟩) (by assumption) ?_; rotate_left 1; (focus (intro w hSw; (try dsimp only at hSw); go_simp <;> try (first | (with_reducible rfl) | (rw [if_neg (by omega)]) | (rw [if_pos (by omega)])))); try simp only [Act.put, List.setIfInBounds_toArray, List.set_cons_zero, List.set_cons_succ]))
    refine wpAnyH_done (by kernel_rfl) ?_ _
    go_wp2
    go_ret2
    exact ⟨ret_pair ER.out.1.symm ER.out.2.symm, D1⟩

set_option maxRecDepth 100000 in
set_option maxHeartbeats 3200000 in
theorem implC_StonesNeeded (a0_0 : Option Addr) (la0_0 ca0_0 : Nat) (xa0_0 : List Int) (a0_1 : Option Addr) (la0_1 ca0_1 : Nat) (xa0_1 : List Int) (a1_0 : Int) (a1_1 : Int) (a1_2 : Int) (a2 : Option Addr) (la2 ca2 : Nat) (xa2 : List Int) (a3 : Int) (w : World) (ha0_0 : la0_0 ≤ 1048576) (ra0_0 : Rd w w.heap.size a0_0 la0_0 xa0_0) (fa0_0 : Wf xa0_0) (ha0_1 : la0_1 ≤ 1048576) (ra0_1 : Rd w w.heap.size a0_1 la0_1 xa0_1) (fa0_1 : Wf xa0_1) (ha1_0 : (Lit.int .i64 a1_0).wf = true) (ha1_1 : (Lit.int .i64 a1_1).wf = true) (ha1_2 : (Lit.int .i64 a1_2).wf = true) (ha2 : la2 ≤ 1048576) (ra2 : Rd w w.heap.size a2 la2 xa2) (fa2 : Wf xa2) (ha3 : (Lit.int .i64 a3).wf = true) (se0 se1 : Addr) (hsent : Sent w w.heap.size se0 se1) :
    Calls Tryd.prog 40 #[.agg #[.slice a0_0 la0_0 ca0_0, .slice a0_1 la0_1 ca0_1], .agg #[.int .i64 a1_0, .int .i64 a1_1, .int .i64 a1_2], .slice a2 la2 ca2, .int .i64 a3] w fun e w' => e = .returned (.tuple #[.int .i64 (r0_StonesNeeded xa0_0 xa0_1 a1_0 a1_1 a1_2 xa2 a3), .int .i64 (r1_StonesNeeded xa0_0 xa0_1 a1_0 a1_1 a1_2 xa2 a3)]) ∧ Below w.heap.size w w' := by
  have RA := Lib.hid ra0_0
  have RB := Lib.hid ra0_1
  have RO := Lib.hid ra2
  clear ra0_0 ra0_1 ra2
  have hlo := RO.out.1
  have HS := Lib.hid hsent
  clear hsent
  obtain ⟨R0, hR0⟩ : ∃ R, R = hcH xa0_0 xa0_1 a1_0 a1_1 a1_2 xa2 a3 := ⟨_, rfl⟩
  obtain ⟨RZ, hRZ⟩ : ∃ R, R = hcZ xa0_0 xa0_1 a1_0 a1_1 a1_2 xa2 a3 := ⟨_, rfl⟩
  obtain ⟨R1, hR1⟩ : ∃ R, R = hcK xa0_0 xa0_1 a1_0 a1_1 a1_2 xa2 a3 := ⟨_, rfl⟩
  show Calls _ _ _ _ (fun e w' => e = .returned (.tuple #[.int .i64 (hcZ xa0_0 xa0_1 a1_0 a1_1 a1_2 xa2 a3), .int .i64 (hcK xa0_0 xa0_1 a1_0 a1_1 a1_2 xa2 a3)]) ∧ _)
  rw [← hRZ, ← hR1]
  have E0 := Lib.hid hR0
  have EZ := Lib.hid hRZ
  have E1 := Lib.hid hR1
  clear hR0 hRZ hR1
  go_enter Tryd.func40, Tryd.ntmps40
  go_wp2_with (go_at_call 67; refine (cp_t a0_0 la0_0 ca0_0 xa0_0 a0_1 la0_1 ca0_1 xa0_1 a1_0 a1_1 a1_2 a2 la2 ca2 xa2 a3 _ ha0_0 ((RA.out.below (by repeat (first | assumption | exact Below.refl _ _ | (refine Below.setCell ?_ (by first | omega | (simp; done) | (simp; omega)) _) | apply below_drewN | apply Below.drew | (refine Below.alloc ?_ (by first | omega | (simp; done) | (simp; omega)) _)))).mono (by first | omega | (simp; done) | (simp; omega))) ha0_1 ((RB.out.below (by repeat (first | assumption | exact Below.refl _ _ | (refine Below.setCell ?_ (by first | omega | (simp; done) | (simp; omega)) _) | apply below_drewN | apply Below.drew | (refine Below.alloc ?_ (by first | omega | (simp; done) | (simp; omega)) _)))).mono (by first | omega | (simp; done) | (simp; omega))) ha2 ((RO.out.below (by repeat (first | assumption | exact Below.refl _ _ | (refine Below.setCell ?_ (by first | omega | (simp; done) | (simp; omega)) _) | apply below_drewN | apply Below.drew | (refine Below.alloc ?_ (by first | omega | (simp; done) | (simp; omega)) _)))).mono (by first | omega | (simp; done) | (simp; omega))) se0 se1 ((HS.out.below (by repeat (first | assumption | exact Below.refl _ _ | (refine Below.setCell ?_ (by first | omega | (simp; done) | (simp; omega)) _) | apply below_drewN | apply Below.drew | (refine Below.alloc ?_ (by first | omega | (simp; done) | (simp; omega)) _)))).mono (by first | omega | (simp; done) | (simp; omega)))).mono ?_; rw [← E0.out, ← EZ.out, ← E1.out]; rintro e2 V2 ⟨x0, x1, x2, B3, n3, k3, B4, n4, k4, B5, n5, k5, B6, n6, k6, rfl, B2⟩; have D2 : Below w.heap.size w V2 := (by repeat (first | assumption | exact Below.refl _ _ | (refine Below.trans ?_ (B2.mono (by first | omega | (simp; done) | (simp; omega)))) | (refine Below.setCell ?_ (by first | omega | (simp; done) | (simp; omega)) _) | apply below_drewN | apply Below.drew | (refine Below.alloc ?_ (by first | omega | (simp; done) | (simp; omega)) _))); clear B2)
  go_wp2
  go_ret2
  exact ⟨rfl, D2.trans ((Below.alloc (Below.refl _ _) (Nat.le_refl _) _ : Below V2.heap.size V2 _).mono (by have := D2.size; omega))⟩


end Go.Proofs.YtckhfkgldemcnaaDoor
