/- HeadOf of a breach. -/
import Derived.Test.YtckhfkgldemcnaaDoorBreI
namespace Go.Proofs.YtckhfkgldemcnaaDoor
open Go.RowKit

def r0_HeadOf (xa0_0 : List Int) (xa0_1 : List Int) (a1_0 : Int) (a1_1 : Int) (a1_2 : Int) (a2 : Int) : Int := if brOk xa0_0 xa0_1 a1_0 a1_1 a1_2 ∧ levOk a2 then headN xa0_0 xa0_1 a1_1 a1_2 a2 else 0
def r1_HeadOf (xa0_0 : List Int) (xa0_1 : List Int) (a1_0 : Int) (a1_1 : Int) (a1_2 : Int) (a2 : Int) : Int := bcode xa0_0 xa0_1 a1_0 a1_1 a1_2 (levOk a2)
theorem HeadOf_ok {ls vs : List Int} {a b c y : Int} (h : brOk ls vs a b c ∧ levOk y) : bcode ls vs a b c (levOk y) = 0 := by unfold bcode; rw [if_pos h.1, if_pos h.2]
theorem HeadOf_no {ls vs : List Int} {a b c y : Int} (h : ¬ (brOk ls vs a b c ∧ levOk y)) : (bcode ls vs a b c (levOk y) != 0) = true := by
  unfold bcode
  by_cases h1 : brOk ls vs a b c
  · rw [if_pos h1, if_neg (fun g => h ⟨h1, g⟩)]; rfl
  · rw [if_neg h1]; rfl

set_option maxHeartbeats 1600000 in
theorem specC_HeadOf (a0_0 : Option Addr) (la0_0 ca0_0 : Nat) (xa0_0 : List Int) (a0_1 : Option Addr) (la0_1 ca0_1 : Nat) (xa0_1 : List Int) (a1_0 : Int) (a1_1 : Int) (a1_2 : Int) (a2 : Int) (w : World) (ha0_0 : la0_0 ≤ 1048576) (ra0_0 : Rd w w.heap.size a0_0 la0_0 xa0_0) (fa0_0 : Wf xa0_0) (ha0_1 : la0_1 ≤ 1048576) (ra0_1 : Rd w w.heap.size a0_1 la0_1 xa0_1) (fa0_1 : Wf xa0_1) (ha1_0 : (Lit.int .i64 a1_0).wf = true) (ha1_1 : (Lit.int .i64 a1_1).wf = true) (ha1_2 : (Lit.int .i64 a1_2).wf = true) (ha2 : (Lit.int .i64 a2).wf = true) :
    Calls Tryd.prog 14 #[.agg #[.slice a0_0 la0_0 ca0_0, .slice a0_1 la0_1 ca0_1], .agg #[.int .i64 a1_0, .int .i64 a1_1, .int .i64 a1_2], .int .i64 a2] w fun e w' => e = .returned (.tuple #[.int .i64 (r0_HeadOf xa0_0 xa0_1 a1_0 a1_1 a1_2 a2), .int .i64 (r1_HeadOf xa0_0 xa0_1 a1_0 a1_1 a1_2 a2)]) ∧ Below w.heap.size w w' := by
  have RA := Lib.hid ra0_0
  have RB := Lib.hid ra0_1
  clear ra0_0 ra0_1
  by_cases h : brOk xa0_0 xa0_1 a1_0 a1_1 a1_2 ∧ levOk a2
  · obtain ⟨r, hr⟩ : ∃ r, r = headN xa0_0 xa0_1 a1_1 a1_2 a2 := ⟨_, rfl⟩
    have e0 : r0_HeadOf xa0_0 xa0_1 a1_0 a1_1 a1_2 a2 = r := by rw [hr]; exact if_pos h
    have e1 : r1_HeadOf xa0_0 xa0_1 a1_0 a1_1 a1_2 a2 = 0 := HeadOf_ok h
    rw [e0, e1]
    have HB := Lib.hid h.1
    have HY := Lib.hid h.2
    have HR := Lib.hid hr
    have HK := Lib.hid (HeadOf_ok h).symm
    clear e0 e1 h hr
    go_enter Tryd.func14, Tryd.ntmps14
    go_wp2_with (first | (go_at_call 46; refine (l12Code_any _ a0_0 la0_0 ca0_0 xa0_0 a0_1 la0_1 ca0_1 xa0_1 a1_0 a1_1 a1_2 a2 _ (by first | omega | (simp; done) | (simp; omega)) ⟨by simp, by simp⟩ ha0_0 ha0_1 ((RA.out.below (by repeat (first | assumption | exact Below.refl _ _ | (refine Below.setCell ?_ (by first | omega | (simp; done) | (simp; omega)) _) | apply below_drewN | apply Below.drew | (refine Below.alloc ?_ (by first | omega | (simp; done) | (simp; omega)) _)))).mono (by first | omega | (simp; done) | (simp; omega))) ((RB.out.below (by repeat (first | assumption | exact Below.refl _ _ | (refine Below.setCell ?_ (by first | omega | (simp; done) | (simp; omega)) _) | apply below_drewN | apply Below.drew | (refine Below.alloc ?_ (by first | omega | (simp; done) | (simp; omega)) _)))).mono (by first | omega | (simp; done) | (simp; omega))) 0 HK.out).mono ?_; rintro e1 W1 ⟨rfl, b1⟩; have s1 : w.heap.size + 1 < W1.heap.size := (by have := b1.size; (try simp at this); omega); obtain ⟨kk, ff⟩ := bcell b1; have z10 : W1.cell? ⟨w.heap.size, 0, none⟩ = some (.slice a0_0 la0_0 ca0_0) := (by rw [kk _ _ (by first | omega | (simp; done) | (simp; omega))]; first | (simp; done) | go_simp); have z1f0 : W1.frozen? ⟨w.heap.size, 0, none⟩ = false := (by rw [ff _ _ (by first | omega | (simp; done) | (simp; omega))]; first | (simp; done) | go_simp); have z11 : W1.cell? ⟨w.heap.size, 1, none⟩ = some (.slice a0_1 la0_1 ca0_1) := (by rw [kk _ _ (by first | omega | (simp; done) | (simp; omega))]; first | (simp; done) | go_simp); have z1f1 : W1.frozen? ⟨w.heap.size, 1, none⟩ = false := (by rw [ff _ _ (by first | omega | (simp; done) | (simp; omega))]; first | (simp; done) | go_simp); have x10 : W1.cell? ⟨w.heap.size + 1, 0, none⟩ = some (.int .i64 a1_0) := (by rw [kk _ _ (by first | omega | (simp; done) | (simp; omega))]; first | (simp; done) | go_simp); have x1f0 : W1.frozen? ⟨w.heap.size + 1, 0, none⟩ = false := (by rw [ff _ _ (by first | omega | (simp; done) | (simp; omega))]; first | (simp; done) | go_simp); have x11 : W1.cell? ⟨w.heap.size + 1, 1, none⟩ = some (.int .i64 a1_1) := (by rw [kk _ _ (by first | omega | (simp; done) | (simp; omega))]; first | (simp; done) | go_simp); have x1f1 : W1.frozen? ⟨w.heap.size + 1, 1, none⟩ = false := (by rw [ff _ _ (by first | omega | (simp; done) | (simp; omega))]; first | (simp; done) | go_simp); have x12 : W1.cell? ⟨w.heap.size + 1, 2, none⟩ = some (.int .i64 a1_2) := (by rw [kk _ _ (by first | omega | (simp; done) | (simp; omega))]; first | (simp; done) | go_simp); have x1f2 : W1.frozen? ⟨w.heap.size + 1, 2, none⟩ = false := (by rw [ff _ _ (by first | omega | (simp; done) | (simp; omega))]; first | (simp; done) | go_simp); clear kk ff; have d1 : Below w.heap.size w W1 := (by repeat (first | assumption | exact Below.refl _ _ | (refine Below.trans ?_ (b1.mono (by first | omega | (simp; done) | (simp; omega)))) | (refine Below.setCell ?_ (by first | omega | (simp; done) | (simp; omega)) _) | apply below_drewN | apply Below.drew | (refine Below.alloc ?_ (by first | omega | (simp; done) | (simp; omega)) _))); clear b1) | (go_at_call 47; refine (headS_t _ a0_0 la0_0 ca0_0 xa0_0 a0_1 la0_1 ca0_1 xa0_1 a1_0 a1_1 a1_2 a2 _ (by first | omega | (simp; done) | (simp; omega)) ⟨z10, z11⟩ ha0_0 ha0_1 ((RA.out.below (by repeat (first | assumption | exact Below.refl _ _ | (refine Below.trans ?_ (d1.mono (by first | omega | (simp; done) | (simp; omega)))) | (refine Below.setCell ?_ (by first | omega | (simp; done) | (simp; omega)) _) | apply below_drewN | apply Below.drew | (refine Below.alloc ?_ (by first | omega | (simp; done) | (simp; omega)) _)))).mono (by first | omega | (simp; done) | (simp; omega))) ((RB.out.below (by repeat (first | assumption | exact Below.refl _ _ | (refine Below.trans ?_ (d1.mono (by first | omega | (simp; done) | (simp; omega)))) | (refine Below.setCell ?_ (by first | omega | (simp; done) | (simp; omega)) _) | apply below_drewN | apply Below.drew | (refine Below.alloc ?_ (by first | omega | (simp; done) | (simp; omega)) _)))).mono (by first | omega | (simp; done) | (simp; omega))) HB.out HY.out r HR.out).mono ?_; rintro e2 W2 ⟨rfl, b2⟩; have d2 : Below w.heap.size w W2 := (by repeat (first | assumption | exact Below.refl _ _ | (refine Below.trans ?_ (b2.mono (by first | omega | (simp; done) | (simp; omega)))) | (refine Below.trans ?_ (d1.mono (by first | omega | (simp; done) | (simp; omega)))) | (refine Below.setCell ?_ (by first | omega | (simp; done) | (simp; omega)) _) | apply below_drewN | apply Below.drew | (refine Below.alloc ?_ (by first | omega | (simp; done) | (simp; omega)) _)))))
    go_ret2
    exact ⟨rfl, d2⟩
  · have e0 : r0_HeadOf xa0_0 xa0_1 a1_0 a1_1 a1_2 a2 = 0 := if_neg h
    obtain ⟨k, hk⟩ : ∃ k, k = bcode xa0_0 xa0_1 a1_0 a1_1 a1_2 (levOk a2) := ⟨_, rfl⟩
    have e1 : r1_HeadOf xa0_0 xa0_1 a1_0 a1_1 a1_2 a2 = k := hk.symm
    rw [e0, e1]
    have hn := HeadOf_no h
    rw [← hk] at hn
    have HK := Lib.hid hk
    clear e0 e1 h hk
    go_enter Tryd.func14, Tryd.ntmps14
    go_wp2_with (go_at_call 46; refine (l12Code_any _ a0_0 la0_0 ca0_0 xa0_0 a0_1 la0_1 ca0_1 xa0_1 a1_0 a1_1 a1_2 a2 _ (by first | omega | (simp; done) | (simp; omega)) ⟨by simp, by simp⟩ ha0_0 ha0_1 ((RA.out.below (by repeat (first | assumption | exact Below.refl _ _ | (refine Below.setCell ?_ (by first | omega | (simp; done) | (simp; omega)) _) | apply below_drewN | apply Below.drew | (refine Below.alloc ?_ (by first | omega | (simp; done) | (simp; omega)) _)))).mono (by first | omega | (simp; done) | (simp; omega))) ((RB.out.below (by repeat (first | assumption | exact Below.refl _ _ | (refine Below.setCell ?_ (by first | omega | (simp; done) | (simp; omega)) _) | apply below_drewN | apply Below.drew | (refine Below.alloc ?_ (by first | omega | (simp; done) | (simp; omega)) _)))).mono (by first | omega | (simp; done) | (simp; omega))) k HK.out).mono ?_; rintro e1 W1 ⟨rfl, b1⟩; have d1 : Below w.heap.size w W1 := (by repeat (first | assumption | exact Below.refl _ _ | (refine Below.trans ?_ (b1.mono (by first | omega | (simp; done) | (simp; omega)))) | (refine Below.setCell ?_ (by first | omega | (simp; done) | (simp; omega)) _) | apply below_drewN | apply Below.drew | (refine Below.alloc ?_ (by first | omega | (simp; done) | (simp; omega)) _))))
    go_ret2
    exact ⟨rfl, d1⟩

set_option maxRecDepth 100000 in
set_option maxHeartbeats 1600000 in
theorem implC_HeadOf (a0_0 : Option Addr) (la0_0 ca0_0 : Nat) (xa0_0 : List Int) (a0_1 : Option Addr) (la0_1 ca0_1 : Nat) (xa0_1 : List Int) (a1_0 : Int) (a1_1 : Int) (a1_2 : Int) (a2 : Int) (w : World) (ha0_0 : la0_0 ≤ 1048576) (ra0_0 : Rd w w.heap.size a0_0 la0_0 xa0_0) (fa0_0 : Wf xa0_0) (ha0_1 : la0_1 ≤ 1048576) (ra0_1 : Rd w w.heap.size a0_1 la0_1 xa0_1) (fa0_1 : Wf xa0_1) (ha1_0 : (Lit.int .i64 a1_0).wf = true) (ha1_1 : (Lit.int .i64 a1_1).wf = true) (ha1_2 : (Lit.int .i64 a1_2).wf = true) (ha2 : (Lit.int .i64 a2).wf = true) (se0 se1 : Addr) (hsent : Sent w w.heap.size se0 se1) :
    Calls Tryd.prog 17 #[.agg #[.slice a0_0 la0_0 ca0_0, .slice a0_1 la0_1 ca0_1], .agg #[.int .i64 a1_0, .int .i64 a1_1, .int .i64 a1_2], .int .i64 a2] w fun e w' => e = .returned (.tuple #[.int .i64 (r0_HeadOf xa0_0 xa0_1 a1_0 a1_1 a1_2 a2), .int .i64 (r1_HeadOf xa0_0 xa0_1 a1_0 a1_1 a1_2 a2)]) ∧ Below w.heap.size w w' := by
  have RA := Lib.hid ra0_0
  have RB := Lib.hid ra0_1
  clear ra0_0 ra0_1
  have HS := Lib.hid hsent
  obtain ⟨v, hv⟩ : ∃ v, v = decide (levOk a2) := ⟨_, rfl⟩
  have HV := Lib.hid hv
  clear hsent hv
  by_cases h : brOk xa0_0 xa0_1 a1_0 a1_1 a1_2 ∧ levOk a2
  · obtain ⟨r, hr⟩ : ∃ r, r = headN xa0_0 xa0_1 a1_1 a1_2 a2 := ⟨_, rfl⟩
    have e0 : r0_HeadOf xa0_0 xa0_1 a1_0 a1_1 a1_2 a2 = r := by rw [hr]; exact if_pos h
    have e1 : r1_HeadOf xa0_0 xa0_1 a1_0 a1_1 a1_2 a2 = 0 := HeadOf_ok h
    rw [e0, e1]
    have HB := Lib.hid h.1
    have HY := Lib.hid h.2
    have HR := Lib.hid hr
    have HK := Lib.hid (HeadOf_ok h).symm
    clear e0 e1 h hr
    go_enter Tryd.func17, Tryd.ntmps17
    go_wp2_with fail
    refine wp_region_held_drew (S := fun w' => w'.cell? ⟨w.heap.size, 0, none⟩ = some (.slice a0_0 la0_0 ca0_0) ∧ w'.cell? ⟨w.heap.size, 1, none⟩ = some (.slice a0_1 la0_1 ca0_1) ∧ w'.cell? ⟨w.heap.size + 1, 0, none⟩ = some (.int .i64 a1_0) ∧ w'.cell? ⟨w.heap.size + 1, 1, none⟩ = some (.int .i64 a1_1) ∧ w'.cell? ⟨w.heap.size + 1, 2, none⟩ = some (.int .i64 a1_2)) (by kernel_rfl) ⟨by first | (simp; done) | go_simp, by first | (simp; done) | go_simp, by first | (simp; done) | go_simp, by first | (simp; done) | go_simp, by first | (simp; done) | go_simp⟩ (fun hHeld => ?_)
    ((refine wpAnyH_take (i := 0) (oi := ⟨some 9, _, _, _, _, _⟩) (v := ?_) rfl (by kernel_rfl) (by kernel_rfl) (by kernel_rfl) (fun _ _ _ h => h) (Or.inl ⟨by rfl, ?_⟩) (by assumption) ?_; rotate_left 1; (focus (intro w hSw; (try dsimp only at hSw); go_simp <;> try (first | (with_reducible rfl) | (rw [if_neg (by omega)]) | (rw [if_pos (by omega)])))); try simp only [Act.put, List.setIfInBounds_toArray, List.set_cons_zero, List.set_cons_succ]); (refine wpAnyH_take (i := 1) (oi := ⟨some 10, _, _, _, _, _⟩) (v := ?_) rfl (by kernel_rfl) (by kernel_rfl) (by kernel_rfl) (fun _ _ _ h => h) (Or.inl ⟨by rfl, ?_⟩) (by assumption) ?_; rotate_left 1; (focus (intro w hSw; (try dsimp only at hSw); go_simp <;> try (first | (with_reducible rfl) | (rw [if_neg (by omega)]) | (rw [if_pos (by omega)])))); try simp only [Act.put, List.setIfInBounds_toArray, List.set_cons_zero, List.set_cons_succ]); (refine wpAnyH_take (i := 2) (oi := ⟨some 11, _, _, _, _, _⟩) (v := ?_) rfl (by kernel_rfl) (by kernel_rfl) (by kernel_rfl) (fun _ _ _ h => h) (Or.inl ⟨by rfl, ?_⟩) (by assumption) ?_; rotate_left 1; (focus (intro w hSw; (try dsimp only at hSw); go_simp <;> try (first | (with_reducible rfl) | (rw [if_neg (by omega)]) | (rw [if_pos (by omega)])))); try simp only [Act.put, List.setIfInBounds_toArray, List.set_cons_zero, List.set_cons_succ]))
    (refine wpAnyH_ready (rs := [3]) (by kernel_rfl) (by simp) ?_; refine AllReadyH.cons rfl (fun K hK => ?_) AllReadyH.nil; go_simp)
    refine (vlI_any a2 _ v HV.out).mono ?_
    rintro e0v V0 ⟨rfl, rfl⟩
    have q0 := hHeld
    clear hHeld
    (refine hK.out _ _ ?_ (fun hHeld => ?_))
    · exact q0
    clear hK K
    (refine wpAnyH_ready (rs := [4]) (by kernel_rfl) (by simp) ?_; refine AllReadyH.cons rfl (fun K hK => ?_) AllReadyH.nil; go_simp)
    refine (bcI_any a0_0 la0_0 ca0_0 xa0_0 a0_1 la0_1 ca0_1 xa0_1 a1_0 a1_1 a1_2 v _ ha0_0 ha0_1 ((RA.out.below (by repeat (first | assumption | exact Below.refl _ _ | (refine Below.setCell ?_ (by first | omega | (simp; done) | (simp; omega)) _) | apply below_drewN | apply Below.drew | (refine Below.alloc ?_ (by first | omega | (simp; done) | (simp; omega)) _)))).mono (by first | omega | (simp; done) | (simp; omega))) ((RB.out.below (by repeat (first | assumption | exact Below.refl _ _ | (refine Below.setCell ?_ (by first | omega | (simp; done) | (simp; omega)) _) | apply below_drewN | apply Below.drew | (refine Below.alloc ?_ (by first | omega | (simp; done) | (simp; omega)) _)))).mono (by first | omega | (simp; done) | (simp; omega))) (levOk a2) HV.out 0 HK.out).mono ?_
    rintro e1v V1 ⟨rfl, B1⟩
    have q1_0 := (B1.cell (p := ⟨w.heap.size, 0, none⟩) (by first | omega | (simp; done) | (simp; omega))).trans hHeld.1
    have q1_1 := (B1.cell (p := ⟨w.heap.size, 1, none⟩) (by first | omega | (simp; done) | (simp; omega))).trans hHeld.2.1
    have q1_2 := (B1.cell (p := ⟨w.heap.size + 1, 0, none⟩) (by first | omega | (simp; done) | (simp; omega))).trans hHeld.2.2.1
    have q1_3 := (B1.cell (p := ⟨w.heap.size + 1, 1, none⟩) (by first | omega | (simp; done) | (simp; omega))).trans hHeld.2.2.2.1
    have q1_4 := (B1.cell (p := ⟨w.heap.size + 1, 2, none⟩) (by first | omega | (simp; done) | (simp; omega))).trans hHeld.2.2.2.2
    have G1 : w.heap.size + 1 < V1.heap.size := (by have := B1.size; (try simp at this); omega)
    have D1 : Below w.heap.size w V1 := (by repeat (first | assumption | exact Below.refl _ _ | (refine Below.trans ?_ (B1.mono (by first | omega | (simp; done) | (simp; omega)))) | (refine Below.setCell ?_ (by first | omega | (simp; done) | (simp; omega)) _) | apply below_drewN | apply Below.drew | (refine Below.alloc ?_ (by first | omega | (simp; done) | (simp; omega)) _)))
    clear hHeld
    (refine hK.out _ _ ?_ (fun hHeld => ?_))
    · exact ⟨q1_0, q1_1, q1_2, q1_3, q1_4⟩
    clear hK K
    ((refine wpAnyH_take (i := 5) (oi := ⟨some 8, _, _, _, _, _⟩) (v := ?_) rfl (by kernel_rfl) (by kernel_rfl) (by kernel_rfl) (fun _ _ _ h => h) (Or.inl ⟨by rfl, ?_⟩) (by assumption) ?_; rotate_left 1; (focus (intro w hSw; (try dsimp only at hSw); go_simp <;> try (first | (with_reducible rfl) | (rw [if_neg (by omega)]) | (rw [if_pos (by omega)])))); try simp only [Act.put, List.setIfInBounds_toArray, List.set_cons_zero, List.set_cons_succ]))
    refine wpAnyH_done (by kernel_rfl) ?_ _
    go_wp2_with (go_at_call 50; refine (headI_t a0_0 la0_0 ca0_0 xa0_0 a0_1 la0_1 ca0_1 xa0_1 a1_0 a1_1 a1_2 a2 (.slice none 0 0) (.slice none 0 0) (.int .i64 0) (.int .i64 0) _ ha0_0 ha0_1 ((RA.out.below (by repeat (first | assumption | exact Below.refl _ _ | (refine Below.trans ?_ (D1.mono (by first | omega | (simp; done) | (simp; omega)))) | (refine Below.setCell ?_ (by first | omega | (simp; done) | (simp; omega)) _) | apply below_drewN | apply Below.drew | (refine Below.alloc ?_ (by first | omega | (simp; done) | (simp; omega)) _)))).mono (by first | omega | (simp; done) | (simp; omega))) ((RB.out.below (by repeat (first | assumption | exact Below.refl _ _ | (refine Below.trans ?_ (D1.mono (by first | omega | (simp; done) | (simp; omega)))) | (refine Below.setCell ?_ (by first | omega | (simp; done) | (simp; omega)) _) | apply below_drewN | apply Below.drew | (refine Below.alloc ?_ (by first | omega | (simp; done) | (simp; omega)) _)))).mono (by first | omega | (simp; done) | (simp; omega))) HB.out HY.out r HR.out se0 se1 ((HS.out.below (by repeat (first | assumption | exact Below.refl _ _ | (refine Below.trans ?_ (D1.mono (by first | omega | (simp; done) | (simp; omega)))) | (refine Below.setCell ?_ (by first | omega | (simp; done) | (simp; omega)) _) | apply below_drewN | apply Below.drew | (refine Below.alloc ?_ (by first | omega | (simp; done) | (simp; omega)) _)))).mono (by first | omega | (simp; done) | (simp; omega)))).mono ?_; rintro e4 W4 ⟨rfl, b4⟩; have d4 : Below w.heap.size w W4 := (by repeat (first | assumption | exact Below.refl _ _ | (refine Below.trans ?_ (b4.mono (by first | omega | (simp; done) | (simp; omega)))) | (refine Below.trans ?_ (D1.mono (by first | omega | (simp; done) | (simp; omega)))) | (refine Below.setCell ?_ (by first | omega | (simp; done) | (simp; omega)) _) | apply below_drewN | apply Below.drew | (refine Below.alloc ?_ (by first | omega | (simp; done) | (simp; omega)) _))))
    go_ret2
    exact ⟨rfl, d4⟩
  · have e0 : r0_HeadOf xa0_0 xa0_1 a1_0 a1_1 a1_2 a2 = 0 := if_neg h
    obtain ⟨k, hk⟩ : ∃ k, k = bcode xa0_0 xa0_1 a1_0 a1_1 a1_2 (levOk a2) := ⟨_, rfl⟩
    have e1 : r1_HeadOf xa0_0 xa0_1 a1_0 a1_1 a1_2 a2 = k := hk.symm
    rw [e0, e1]
    have hn := HeadOf_no h
    rw [← hk] at hn
    have HK := Lib.hid hk
    clear e0 e1 h hk
    go_enter Tryd.func17, Tryd.ntmps17
    go_wp2_with fail
    refine wp_region_held_drew (S := fun w' => w'.cell? ⟨w.heap.size, 0, none⟩ = some (.slice a0_0 la0_0 ca0_0) ∧ w'.cell? ⟨w.heap.size, 1, none⟩ = some (.slice a0_1 la0_1 ca0_1) ∧ w'.cell? ⟨w.heap.size + 1, 0, none⟩ = some (.int .i64 a1_0) ∧ w'.cell? ⟨w.heap.size + 1, 1, none⟩ = some (.int .i64 a1_1) ∧ w'.cell? ⟨w.heap.size + 1, 2, none⟩ = some (.int .i64 a1_2)) (by kernel_rfl) ⟨by first | (simp; done) | go_simp, by first | (simp; done) | go_simp, by first | (simp; done) | go_simp, by first | (simp; done) | go_simp, by first | (simp; done) | go_simp⟩ (fun hHeld => ?_)
    ((refine wpAnyH_take (i := 0) (oi := ⟨some 9, _, _, _, _, _⟩) (v := ?_) rfl (by kernel_rfl) (by kernel_rfl) (by kernel_rfl) (fun _ _ _ h => h) (Or.inl ⟨by rfl, ?_⟩) (by assumption) ?_; rotate_left 1; (focus (intro w hSw; (try dsimp only at hSw); go_simp <;> try (first | (with_reducible rfl) | (rw [if_neg (by omega)]) | (rw [if_pos (by omega)])))); try simp only [Act.put, List.setIfInBounds_toArray, List.set_cons_zero, List.set_cons_succ]); (refine wpAnyH_take (i := 1) (oi := ⟨some 10, _, _, _, _, _⟩) (v := ?_) rfl (by kernel_rfl) (by kernel_rfl) (by kernel_rfl) (fun _ _ _ h => h) (Or.inl ⟨by rfl, ?_⟩) (by assumption) ?_; rotate_left 1; (focus (intro w hSw; (try dsimp only at hSw); go_simp <;> try (first | (with_reducible rfl) | (rw [if_neg (by omega)]) | (rw [if_pos (by omega)])))); try simp only [Act.put, List.setIfInBounds_toArray, List.set_cons_zero, List.set_cons_succ]); (refine wpAnyH_take (i := 2) (oi := ⟨some 11, _, _, _, _, _⟩) (v := ?_) rfl (by kernel_rfl) (by kernel_rfl) (by kernel_rfl) (fun _ _ _ h => h) (Or.inl ⟨by rfl, ?_⟩) (by assumption) ?_; rotate_left 1; (focus (intro w hSw; (try dsimp only at hSw); go_simp <;> try (first | (with_reducible rfl) | (rw [if_neg (by omega)]) | (rw [if_pos (by omega)])))); try simp only [Act.put, List.setIfInBounds_toArray, List.set_cons_zero, List.set_cons_succ]))
    (refine wpAnyH_ready (rs := [3]) (by kernel_rfl) (by simp) ?_; refine AllReadyH.cons rfl (fun K hK => ?_) AllReadyH.nil; go_simp)
    refine (vlI_any a2 _ v HV.out).mono ?_
    rintro e0v V0 ⟨rfl, rfl⟩
    have q0 := hHeld
    clear hHeld
    (refine hK.out _ _ ?_ (fun hHeld => ?_))
    · exact q0
    clear hK K
    (refine wpAnyH_ready (rs := [4]) (by kernel_rfl) (by simp) ?_; refine AllReadyH.cons rfl (fun K hK => ?_) AllReadyH.nil; go_simp)
    refine (bcI_any a0_0 la0_0 ca0_0 xa0_0 a0_1 la0_1 ca0_1 xa0_1 a1_0 a1_1 a1_2 v _ ha0_0 ha0_1 ((RA.out.below (by repeat (first | assumption | exact Below.refl _ _ | (refine Below.setCell ?_ (by first | omega | (simp; done) | (simp; omega)) _) | apply below_drewN | apply Below.drew | (refine Below.alloc ?_ (by first | omega | (simp; done) | (simp; omega)) _)))).mono (by first | omega | (simp; done) | (simp; omega))) ((RB.out.below (by repeat (first | assumption | exact Below.refl _ _ | (refine Below.setCell ?_ (by first | omega | (simp; done) | (simp; omega)) _) | apply below_drewN | apply Below.drew | (refine Below.alloc ?_ (by first | omega | (simp; done) | (simp; omega)) _)))).mono (by first | omega | (simp; done) | (simp; omega))) (levOk a2) HV.out k HK.out).mono ?_
    rintro e1v V1 ⟨rfl, B1⟩
    have q1_0 := (B1.cell (p := ⟨w.heap.size, 0, none⟩) (by first | omega | (simp; done) | (simp; omega))).trans hHeld.1
    have q1_1 := (B1.cell (p := ⟨w.heap.size, 1, none⟩) (by first | omega | (simp; done) | (simp; omega))).trans hHeld.2.1
    have q1_2 := (B1.cell (p := ⟨w.heap.size + 1, 0, none⟩) (by first | omega | (simp; done) | (simp; omega))).trans hHeld.2.2.1
    have q1_3 := (B1.cell (p := ⟨w.heap.size + 1, 1, none⟩) (by first | omega | (simp; done) | (simp; omega))).trans hHeld.2.2.2.1
    have q1_4 := (B1.cell (p := ⟨w.heap.size + 1, 2, none⟩) (by first | omega | (simp; done) | (simp; omega))).trans hHeld.2.2.2.2
    have G1 : w.heap.size + 1 < V1.heap.size := (by have := B1.size; (try simp at this); omega)
    have D1 : Below w.heap.size w V1 := (by repeat (first | assumption | exact Below.refl _ _ | (refine Below.trans ?_ (B1.mono (by first | omega | (simp; done) | (simp; omega)))) | (refine Below.setCell ?_ (by first | omega | (simp; done) | (simp; omega)) _) | apply below_drewN | apply Below.drew | (refine Below.alloc ?_ (by first | omega | (simp; done) | (simp; omega)) _)))
    clear hHeld
    (refine hK.out _ _ ?_ (fun hHeld => ?_))
    · exact ⟨q1_0, q1_1, q1_2, q1_3, q1_4⟩
    clear hK K
    ((refine wpAnyH_take (i := 5) (oi := ⟨some 8, _, _, _, _, _⟩) (v := ?_) rfl (by kernel_rfl) (by kernel_rfl) (by kernel_rfl) (fun _ _ _ h => h) (Or.inl ⟨by rfl, ?_⟩) (by assumption) ?_; rotate_left 1; (focus (intro w hSw; (try dsimp only at hSw); go_simp <;> try (first | (with_reducible rfl) | (rw [if_neg (by omega)]) | (rw [if_pos (by omega)])))); try simp only [Act.put, List.setIfInBounds_toArray, List.set_cons_zero, List.set_cons_succ]))
    refine wpAnyH_done (by kernel_rfl) ?_ _
    go_wp2
    go_ret2
    exact ⟨rfl, D1⟩


end Go.Proofs.YtckhfkgldemcnaaDoor
