/- Breaches: the polder whose breach is closed. -/
import Derived.Test.YtckhfkgldemcnaaDoorBreZ
import Derived.Test.YtckhfkgldemcnaaDoorBreY
namespace Go.Proofs.YtckhfkgldemcnaaDoor
open Go.RowKit

def hcH (xa0_0 : List Int) (xa0_1 : List Int) (a1_0 : Int) (a1_1 : Int) (a1_2 : Int) (xa2 : List Int) (a3 : Int) : Int := if (brOk xa0_0 xa0_1 a1_0 a1_1 a1_2 ∧ stepsOk xa2 ∧ stoOk a3) ∧ cloF xa0_0 xa0_1 a1_0 a1_1 a1_2 xa2 a3 ≤ xa2.length then (cloF xa0_0 xa0_1 a1_0 a1_1 a1_2 xa2 a3 : Int) else 0
def hcZ (xa0_0 : List Int) (xa0_1 : List Int) (a1_0 : Int) (a1_1 : Int) (a1_2 : Int) (xa2 : List Int) (a3 : Int) : Int := if (brOk xa0_0 xa0_1 a1_0 a1_1 a1_2 ∧ stepsOk xa2 ∧ stoOk a3) ∧ cloF xa0_0 xa0_1 a1_0 a1_1 a1_2 xa2 a3 ≤ xa2.length then (itB xa0_0 xa0_1 a1_0 a1_1 a1_2 xa2 (fun _ => a3) (cloF xa0_0 xa0_1 a1_0 a1_1 a1_2 xa2 a3)).z else 0
def hcK (xa0_0 : List Int) (xa0_1 : List Int) (a1_0 : Int) (a1_1 : Int) (a1_2 : Int) (xa2 : List Int) (a3 : Int) : Int := if (brOk xa0_0 xa0_1 a1_0 a1_1 a1_2 ∧ stepsOk xa2 ∧ stoOk a3) ∧ xa2.length < cloF xa0_0 xa0_1 a1_0 a1_1 a1_2 xa2 a3 then 3 else bcode xa0_0 xa0_1 a1_0 a1_1 a1_2 (stepsOk xa2 ∧ stoOk a3)
theorem zbox9 {w V : World} {a b c : Int} {A0 : Option Addr} {n0 k0 : Nat} {A1 : Option Addr} {n1 k1 : Nat} (E : Below (w.heap.size + 1 + 1 + 1) (((w.alloc (.cells #[.slice A0 n0 k0, .slice A1 n1 k1] 30)).alloc (.cells #[.int .i64 a, .int .i64 b, .int .i64 c] 32)).alloc (.cells #[.int .i64 0, .int .i64 0, .int .i64 0, .slice none 0 0, .slice none 0 0, .slice none 0 0, .slice none 0 0, .int .i64 0, .int .i64 0] 62)) V) : V.cell? ⟨w.heap.size + 1 + 1, 0, none⟩ = some (.int .i64 0) ∧ V.cell? ⟨w.heap.size + 1 + 1, 1, none⟩ = some (.int .i64 0) ∧ V.cell? ⟨w.heap.size + 1 + 1, 2, none⟩ = some (.int .i64 0) ∧ V.cell? ⟨w.heap.size + 1 + 1, 3, none⟩ = some (.slice none 0 0) ∧ V.cell? ⟨w.heap.size + 1 + 1, 4, none⟩ = some (.slice none 0 0) ∧ V.cell? ⟨w.heap.size + 1 + 1, 5, none⟩ = some (.slice none 0 0) ∧ V.cell? ⟨w.heap.size + 1 + 1, 6, none⟩ = some (.slice none 0 0) ∧ V.cell? ⟨w.heap.size + 1 + 1, 7, none⟩ = some (.int .i64 0) ∧ V.cell? ⟨w.heap.size + 1 + 1, 8, none⟩ = some (.int .i64 0) :=
  ⟨(E.cell (p := ⟨w.heap.size + 1 + 1, 0, none⟩) (show w.heap.size + 1 + 1 < w.heap.size + 1 + 1 + 1 by omega)).trans (by first | (simp; done) | go_simp), (E.cell (p := ⟨w.heap.size + 1 + 1, 1, none⟩) (show w.heap.size + 1 + 1 < w.heap.size + 1 + 1 + 1 by omega)).trans (by first | (simp; done) | go_simp), (E.cell (p := ⟨w.heap.size + 1 + 1, 2, none⟩) (show w.heap.size + 1 + 1 < w.heap.size + 1 + 1 + 1 by omega)).trans (by first | (simp; done) | go_simp), (E.cell (p := ⟨w.heap.size + 1 + 1, 3, none⟩) (show w.heap.size + 1 + 1 < w.heap.size + 1 + 1 + 1 by omega)).trans (by first | (simp; done) | go_simp), (E.cell (p := ⟨w.heap.size + 1 + 1, 4, none⟩) (show w.heap.size + 1 + 1 < w.heap.size + 1 + 1 + 1 by omega)).trans (by first | (simp; done) | go_simp), (E.cell (p := ⟨w.heap.size + 1 + 1, 5, none⟩) (show w.heap.size + 1 + 1 < w.heap.size + 1 + 1 + 1 by omega)).trans (by first | (simp; done) | go_simp), (E.cell (p := ⟨w.heap.size + 1 + 1, 6, none⟩) (show w.heap.size + 1 + 1 < w.heap.size + 1 + 1 + 1 by omega)).trans (by first | (simp; done) | go_simp), (E.cell (p := ⟨w.heap.size + 1 + 1, 7, none⟩) (show w.heap.size + 1 + 1 < w.heap.size + 1 + 1 + 1 by omega)).trans (by first | (simp; done) | go_simp), (E.cell (p := ⟨w.heap.size + 1 + 1, 8, none⟩) (show w.heap.size + 1 + 1 < w.heap.size + 1 + 1 + 1 by omega)).trans (by first | (simp; done) | go_simp)⟩
theorem zfr9 {w V : World} {a b c : Int} {A0 : Option Addr} {n0 k0 : Nat} {A1 : Option Addr} {n1 k1 : Nat} (E : Below (w.heap.size + 1 + 1 + 1) (((w.alloc (.cells #[.slice A0 n0 k0, .slice A1 n1 k1] 30)).alloc (.cells #[.int .i64 a, .int .i64 b, .int .i64 c] 32)).alloc (.cells #[.int .i64 0, .int .i64 0, .int .i64 0, .slice none 0 0, .slice none 0 0, .slice none 0 0, .slice none 0 0, .int .i64 0, .int .i64 0] 62)) V) (j : Nat) : V.frozen? ⟨w.heap.size + 1 + 1, j, none⟩ = false :=
  (E.frozen (p := ⟨w.heap.size + 1 + 1, j, none⟩) (show w.heap.size + 1 + 1 < w.heap.size + 1 + 1 + 1 by omega)).trans (by first | (simp; done) | go_simp)

set_option maxRecDepth 100000 in
set_option maxHeartbeats 6400000 in
theorem cp_t (a0_0 : Option Addr) (la0_0 ca0_0 : Nat) (xa0_0 : List Int) (a0_1 : Option Addr) (la0_1 ca0_1 : Nat) (xa0_1 : List Int) (a1_0 : Int) (a1_1 : Int) (a1_2 : Int) (a2 : Option Addr) (la2 ca2 : Nat) (xa2 : List Int) (a3 : Int) (w : World) (ha0_0 : la0_0 ≤ 1048576) (ra0_0 : Rd w w.heap.size a0_0 la0_0 xa0_0) (ha0_1 : la0_1 ≤ 1048576) (ra0_1 : Rd w w.heap.size a0_1 la0_1 xa0_1) (ha2 : la2 ≤ 1048576) (ra2 : Rd w w.heap.size a2 la2 xa2) (se0 se1 : Addr) (hsent : Sent w w.heap.size se0 se1) :
    Calls Tryd.prog 67 #[.agg #[.slice a0_0 la0_0 ca0_0, .slice a0_1 la0_1 ca0_1], .agg #[.int .i64 a1_0, .int .i64 a1_1, .int .i64 a1_2], .slice a2 la2 ca2, .int .i64 a3] w fun e w' => ∃ x0 x1 x2 B3 n3 k3 B4 n4 k4 B5 n5 k5 B6 n6 k6, e = .returned (.tuple #[.agg #[.int .i64 x0, .int .i64 x1, .int .i64 x2, .slice B3 n3 k3, .slice B4 n4 k4, .slice B5 n5 k5, .slice B6 n6 k6, .int .i64 (hcH xa0_0 xa0_1 a1_0 a1_1 a1_2 xa2 a3), .int .i64 (hcZ xa0_0 xa0_1 a1_0 a1_1 a1_2 xa2 a3)], .int .i64 (hcK xa0_0 xa0_1 a1_0 a1_1 a1_2 xa2 a3)]) ∧ Below w.heap.size w w' := by
  have RA := Lib.hid ra0_0
  have RB := Lib.hid ra0_1
  have RO := Lib.hid ra2
  clear ra0_0 ra0_1 ra2
  have hlo := RO.out.1
  have HS := Lib.hid hsent
  clear hsent
  obtain ⟨R0, hR0⟩ : ∃ R, R = hcH xa0_0 xa0_1 a1_0 a1_1 a1_2 xa2 a3 := ⟨_, rfl⟩
  obtain ⟨RZ, hRZ⟩ : ∃ R, R = hcZ xa0_0 xa0_1 a1_0 a1_1 a1_2 xa2 a3 := ⟨_, rfl⟩
  obtain ⟨R1, hR1⟩ : ∃ R, R = hcK xa0_0 xa0_1 a1_0 a1_1 a1_2 xa2 a3 := ⟨_, rfl⟩
  rw [← hR0, ← hR1, ← hRZ]
  by_cases h : brOk xa0_0 xa0_1 a1_0 a1_1 a1_2 ∧ stepsOk xa2 ∧ stoOk a3
  · have HB := Lib.hid h.1
    have HO := Lib.hid h.2.1
    obtain ⟨t, ht⟩ : ∃ t, t = true := ⟨_, rfl⟩
    have HK := Lib.hid (show (0 : Int) = bcode xa0_0 xa0_1 a1_0 a1_1 a1_2 (stepsOk xa2 ∧ stoOk a3) from (by unfold bcode; rw [if_pos h.1, if_pos h.2]))
    have HA := Lib.hid (show true = decide (stepsOk xa2) from (decide_eq_true h.2.1).symm)
    have HT := Lib.hid (show t = decide (stoOk a3) from ht.trans (decide_eq_true h.2.2).symm)
    have HP := Lib.hid (show t = decide (stepsOk xa2 ∧ stoOk a3) from ht.trans (decide_eq_true h.2).symm)
    have h100 := h.2.1.2
    have HH := Lib.hid (hrs_ok (s := a3) h.2.1 h.2.2)
    have YES := Lib.hid (show ∀ k, k ≤ xa2.length → (∀ j, j < k → (itB xa0_0 xa0_1 a1_0 a1_1 a1_2 xa2 (fun _ => a3) j).a ≠ 0) → (itB xa0_0 xa0_1 a1_0 a1_1 a1_2 xa2 (fun _ => a3) k).a = 0 → R0 = (k : Int) ∧ RZ = (itB xa0_0 xa0_1 a1_0 a1_1 a1_2 xa2 (fun _ => a3) k).z ∧ R1 = 0 from fun k hk hj hp => by
      rw [hR0, hR1, hRZ]
      have e := (clo_yes hk hj hp).1
      unfold hcH hcZ hcK
      rw [e, if_pos ⟨h, hk⟩, if_pos ⟨h, hk⟩, if_neg (fun g => by omega)]
      exact ⟨rfl, rfl, HK.out.symm⟩)
    have NO := Lib.hid (show (∀ j, j ≤ xa2.length → (itB xa0_0 xa0_1 a1_0 a1_1 a1_2 xa2 (fun _ => a3) j).a ≠ 0) → R0 = 0 ∧ RZ = 0 ∧ R1 = 3 from fun hj => by
      rw [hR0, hR1, hRZ]
      have e := (clo_no hj).1
      unfold hcH hcZ hcK
      rw [e, if_neg (fun g => by omega), if_neg (fun g => by omega), if_pos ⟨h, by omega⟩]
      exact ⟨rfl, rfl, rfl⟩)
    clear h hR0 hR1 hRZ ht
    go_enter Tryd.func67, Tryd.ntmps67
    go_wp2_with fail
    refine wp_region_held_drew (S := fun w' => w'.cell? ⟨w.heap.size, 0, none⟩ = some (.slice a0_0 la0_0 ca0_0) ∧ w'.cell? ⟨w.heap.size, 1, none⟩ = some (.slice a0_1 la0_1 ca0_1) ∧ w'.cell? ⟨w.heap.size + 1, 0, none⟩ = some (.int .i64 a1_0) ∧ w'.cell? ⟨w.heap.size + 1, 1, none⟩ = some (.int .i64 a1_1) ∧ w'.cell? ⟨w.heap.size + 1, 2, none⟩ = some (.int .i64 a1_2)) (by kernel_rfl) ⟨by first | (simp; done) | go_simp, by first | (simp; done) | go_simp, by first | (simp; done) | go_simp, by first | (simp; done) | go_simp, by first | (simp; done) | go_simp⟩ (fun hHeld => ?_)
    ((refine wpAnyH_take (i := 0) (oi := ⟨some 12, _, _, _, _, _⟩) (v := ?_) rfl (by kernel_rfl) (by kernel_rfl) (by kernel_rfl) (fun _ _ _ h => h) (Or.inl ⟨by rfl, ?_⟩) (by assumption) ?_; rotate_left 1; (focus (intro w hSw; (try dsimp only at hSw); go_simp <;> try (first | (with_reducible rfl) | (rw [if_neg (by omega)]) | (rw [if_pos (by omega)])))); try simp only [Act.put, List.setIfInBounds_toArray, List.set_cons_zero, List.set_cons_succ]); (refine wpAnyH_take (i := 1) (oi := ⟨some 13, _, _, _, _, _⟩) (v := ?_) rfl (by kernel_rfl) (by kernel_rfl) (by kernel_rfl) (fun _ _ _ h => h) (Or.inl ⟨by rfl, ?_⟩) (by assumption) ?_; rotate_left 1; (focus (intro w hSw; (try dsimp only at hSw); go_simp <;> try (first | (with_reducible rfl) | (rw [if_neg (by omega)]) | (rw [if_pos (by omega)])))); try simp only [Act.put, List.setIfInBounds_toArray, List.set_cons_zero, List.set_cons_succ]); (refine wpAnyH_take (i := 2) (oi := ⟨some 14, _, _, _, _, _⟩) (v := ?_) rfl (by kernel_rfl) (by kernel_rfl) (by kernel_rfl) (fun _ _ _ h => h) (Or.inl ⟨by rfl, ?_⟩) (by assumption) ?_; rotate_left 1; (focus (intro w hSw; (try dsimp only at hSw); go_simp <;> try (first | (with_reducible rfl) | (rw [if_neg (by omega)]) | (rw [if_pos (by omega)])))); try simp only [Act.put, List.setIfInBounds_toArray, List.set_cons_zero, List.set_cons_succ]))
    (refine wpAnyH_ready (rs := [3]) (by kernel_rfl) (by simp) ?_; refine AllReadyH.cons rfl (fun K hK => ?_) AllReadyH.nil; go_simp)
    refine (asI_any a2 la2 ca2 xa2 _ ha2 ((RO.out.below (by repeat (first | assumption | exact Below.refl _ _ | (refine Below.setCell ?_ (by first | omega | (simp; done) | (simp; omega)) _) | apply below_drewN | apply Below.drew | (refine Below.alloc ?_ (by first | omega | (simp; done) | (simp; omega)) _)))).mono (by first | omega | (simp; done) | (simp; omega))) true HA.out).mono ?_
    rintro e0v V0 ⟨rfl, B0⟩
    have q0_0 := (B0.cell (p := ⟨w.heap.size, 0, none⟩) (by first | omega | (simp; done) | (simp; omega))).trans hHeld.1
    have q0_1 := (B0.cell (p := ⟨w.heap.size, 1, none⟩) (by first | omega | (simp; done) | (simp; omega))).trans hHeld.2.1
    have q0_2 := (B0.cell (p := ⟨w.heap.size + 1, 0, none⟩) (by first | omega | (simp; done) | (simp; omega))).trans hHeld.2.2.1
    have q0_3 := (B0.cell (p := ⟨w.heap.size + 1, 1, none⟩) (by first | omega | (simp; done) | (simp; omega))).trans hHeld.2.2.2.1
    have q0_4 := (B0.cell (p := ⟨w.heap.size + 1, 2, none⟩) (by first | omega | (simp; done) | (simp; omega))).trans hHeld.2.2.2.2
    have G0 : w.heap.size + 1 + 1 < V0.heap.size := (by have := B0.size; (try simp at this); omega)
    have E0 : Below (w.heap.size + 1 + 1 + 1) (((w.alloc (.cells #[.slice a0_0 la0_0 ca0_0, .slice a0_1 la0_1 ca0_1] 30)).alloc (.cells #[.int .i64 a1_0, .int .i64 a1_1, .int .i64 a1_2] 32)).alloc (.cells #[.int .i64 0, .int .i64 0, .int .i64 0, .slice none 0 0, .slice none 0 0, .slice none 0 0, .slice none 0 0, .int .i64 0, .int .i64 0] 62)) V0 := (by repeat (first | assumption | exact Below.refl _ _ | (refine Below.trans ?_ (B0.mono (by first | omega | (simp; done) | (simp; omega)))) | (refine Below.setCell ?_ (by first | omega | (simp; done) | (simp; omega)) _) | apply below_drewN | apply Below.drew | (refine Below.alloc ?_ (by first | omega | (simp; done) | (simp; omega)) _)))
    have D0 : Below w.heap.size w V0 := (by repeat (first | assumption | exact Below.refl _ _ | (refine Below.trans ?_ (B0.mono (by first | omega | (simp; done) | (simp; omega)))) | (refine Below.setCell ?_ (by first | omega | (simp; done) | (simp; omega)) _) | apply below_drewN | apply Below.drew | (refine Below.alloc ?_ (by first | omega | (simp; done) | (simp; omega)) _)))
    clear hHeld
    (refine hK.out _ _ ?_ (fun hHeld => ?_))
    · exact ⟨q0_0, q0_1, q0_2, q0_3, q0_4⟩
    clear hK K
    ((refine wpAnyH_take (i := 4) (oi := ⟨some 16, _, _, _, _, _⟩) (v := ?_) rfl (by kernel_rfl) (by kernel_rfl) (by kernel_rfl) (fun _ _ _ h => h) (Or.inl ⟨by rfl, ?_⟩) (by assumption) ?_; rotate_left 1; (focus (intro w hSw; (try dsimp only at hSw); go_simp <;> try (first | (with_reducible rfl) | (rw [if_neg (by omega)]) | (rw [if_pos (by omega)])))); try simp only [Act.put, List.setIfInBounds_toArray, List.set_cons_zero, List.set_cons_succ]); (refine wpAnyH_take (i := 5) (oi := ⟨some 17, _, _, _, _, _⟩) (v := ?_) rfl (by kernel_rfl) (by kernel_rfl) (by kernel_rfl) (fun _ _ _ h => h) (Or.inl ⟨by rfl, ?_⟩) (by assumption) ?_; rotate_left 1; (focus (intro w hSw; (try dsimp only at hSw); go_simp <;> try (first | (with_reducible rfl) | (rw [if_neg (by omega)]) | (rw [if_pos (by omega)])))); try simp only [Act.put, List.setIfInBounds_toArray, List.set_cons_zero, List.set_cons_succ]))
    refine wpAnyH_ready (rs := [6]) (by kernel_rfl) (by simp) ?_
    refine AllReadyH.cons (o := ⟨some 18, _, _, _, _, _⟩) rfl (fun K hK => ?_) AllReadyH.nil
    go_simp
    clear hHeld
    (refine hK.out _ _ ?_ (fun hHeld => ?_))
    · exact ⟨((Below.alloc (Below.refl _ _) (Nat.le_refl _) _ : Below _ _ _).cell (p := ⟨w.heap.size, 0, none⟩) (by first | omega | (simp; done) | (simp; omega))).trans q0_0, ((Below.alloc (Below.refl _ _) (Nat.le_refl _) _ : Below _ _ _).cell (p := ⟨w.heap.size, 1, none⟩) (by first | omega | (simp; done) | (simp; omega))).trans q0_1, ((Below.alloc (Below.refl _ _) (Nat.le_refl _) _ : Below _ _ _).cell (p := ⟨w.heap.size + 1, 0, none⟩) (by first | omega | (simp; done) | (simp; omega))).trans q0_2, ((Below.alloc (Below.refl _ _) (Nat.le_refl _) _ : Below _ _ _).cell (p := ⟨w.heap.size + 1, 1, none⟩) (by first | omega | (simp; done) | (simp; omega))).trans q0_3, ((Below.alloc (Below.refl _ _) (Nat.le_refl _) _ : Below _ _ _).cell (p := ⟨w.heap.size + 1, 2, none⟩) (by first | omega | (simp; done) | (simp; omega))).trans q0_4⟩
    clear hK K
    try simp only [Act.put, List.setIfInBounds_toArray, List.set_cons_zero, List.set_cons_succ]
    (refine wpAnyH_ready (rs := [7]) (by kernel_rfl) (by simp) ?_; refine AllReadyH.cons rfl (fun K hK => ?_) AllReadyH.nil; go_simp)
    refine (thI_one _ a3 _ (by simp) (by first | (simp; done) | go_simp) t HT.out).mono ?_
    rintro e1v V1 ⟨rfl, B1⟩
    have q1_0 := (B1.cell (p := ⟨w.heap.size, 0, none⟩) (by first | omega | (simp; done) | (simp; omega))).trans hHeld.1
    have q1_1 := (B1.cell (p := ⟨w.heap.size, 1, none⟩) (by first | omega | (simp; done) | (simp; omega))).trans hHeld.2.1
    have q1_2 := (B1.cell (p := ⟨w.heap.size + 1, 0, none⟩) (by first | omega | (simp; done) | (simp; omega))).trans hHeld.2.2.1
    have q1_3 := (B1.cell (p := ⟨w.heap.size + 1, 1, none⟩) (by first | omega | (simp; done) | (simp; omega))).trans hHeld.2.2.2.1
    have q1_4 := (B1.cell (p := ⟨w.heap.size + 1, 2, none⟩) (by first | omega | (simp; done) | (simp; omega))).trans hHeld.2.2.2.2
    have G1 : w.heap.size + 1 + 1 < V1.heap.size := (by have := B1.size; (try simp at this); omega)
    have E1 : Below (w.heap.size + 1 + 1 + 1) (((w.alloc (.cells #[.slice a0_0 la0_0 ca0_0, .slice a0_1 la0_1 ca0_1] 30)).alloc (.cells #[.int .i64 a1_0, .int .i64 a1_1, .int .i64 a1_2] 32)).alloc (.cells #[.int .i64 0, .int .i64 0, .int .i64 0, .slice none 0 0, .slice none 0 0, .slice none 0 0, .slice none 0 0, .int .i64 0, .int .i64 0] 62)) V1 := (by repeat (first | assumption | exact Below.refl _ _ | (refine Below.trans ?_ (B1.mono (by first | omega | (simp; done) | (simp; omega)))) | (refine Below.trans ?_ (E0.mono (by first | omega | (simp; done) | (simp; omega)))) | (refine Below.setCell ?_ (by first | omega | (simp; done) | (simp; omega)) _) | apply below_drewN | apply Below.drew | (refine Below.alloc ?_ (by first | omega | (simp; done) | (simp; omega)) _)))
    have D1 : Below w.heap.size w V1 := (by repeat (first | assumption | exact Below.refl _ _ | (refine Below.trans ?_ (B1.mono (by first | omega | (simp; done) | (simp; omega)))) | (refine Below.trans ?_ (D0.mono (by first | omega | (simp; done) | (simp; omega)))) | (refine Below.setCell ?_ (by first | omega | (simp; done) | (simp; omega)) _) | apply below_drewN | apply Below.drew | (refine Below.alloc ?_ (by first | omega | (simp; done) | (simp; omega)) _)))
    clear hHeld
    (refine hK.out _ _ ?_ (fun hHeld => ?_))
    · exact ⟨q1_0, q1_1, q1_2, q1_3, q1_4⟩
    clear hK K
    ((refine wpAnyH_take (i := 8) (oi := ⟨some 20, _, _, _, _, _⟩) (v := ?_) rfl (by kernel_rfl) (by kernel_rfl) (by kernel_rfl) (fun _ _ _ h => h) (Or.inl ⟨by rfl, ?_⟩) (by assumption) ?_; rotate_left 1; (focus (intro w hSw; (try dsimp only at hSw); go_simp <;> try (first | (with_reducible rfl) | (rw [if_neg (by omega)]) | (rw [if_pos (by omega)])))); try simp only [Act.put, List.setIfInBounds_toArray, List.set_cons_zero, List.set_cons_succ]))
    (refine wpAnyH_ready (rs := [9]) (by kernel_rfl) (by simp) ?_; refine AllReadyH.cons rfl (fun K hK => ?_) AllReadyH.nil; go_simp)
    refine (bcI_any a0_0 la0_0 ca0_0 xa0_0 a0_1 la0_1 ca0_1 xa0_1 a1_0 a1_1 a1_2 t _ ha0_0 ha0_1 ((RA.out.below (by repeat (first | assumption | exact Below.refl _ _ | (refine Below.trans ?_ (D1.mono (by first | omega | (simp; done) | (simp; omega)))) | (refine Below.setCell ?_ (by first | omega | (simp; done) | (simp; omega)) _) | apply below_drewN | apply Below.drew | (refine Below.alloc ?_ (by first | omega | (simp; done) | (simp; omega)) _)))).mono (by first | omega | (simp; done) | (simp; omega))) ((RB.out.below (by repeat (first | assumption | exact Below.refl _ _ | (refine Below.trans ?_ (D1.mono (by first | omega | (simp; done) | (simp; omega)))) | (refine Below.setCell ?_ (by first | omega | (simp; done) | (simp; omega)) _) | apply below_drewN | apply Below.drew | (refine Below.alloc ?_ (by first | omega | (simp; done) | (simp; omega)) _)))).mono (by first | omega | (simp; done) | (simp; omega))) (stepsOk xa2 ∧ stoOk a3) HP.out 0 HK.out).mono ?_
    rintro e2v V2 ⟨rfl, B2⟩
    have q2_0 := (B2.cell (p := ⟨w.heap.size, 0, none⟩) (by first | omega | (simp; done) | (simp; omega))).trans hHeld.1
    have q2_1 := (B2.cell (p := ⟨w.heap.size, 1, none⟩) (by first | omega | (simp; done) | (simp; omega))).trans hHeld.2.1
    have q2_2 := (B2.cell (p := ⟨w.heap.size + 1, 0, none⟩) (by first | omega | (simp; done) | (simp; omega))).trans hHeld.2.2.1
    have q2_3 := (B2.cell (p := ⟨w.heap.size + 1, 1, none⟩) (by first | omega | (simp; done) | (simp; omega))).trans hHeld.2.2.2.1
    have q2_4 := (B2.cell (p := ⟨w.heap.size + 1, 2, none⟩) (by first | omega | (simp; done) | (simp; omega))).trans hHeld.2.2.2.2
    have G2 : w.heap.size + 1 + 1 < V2.heap.size := (by have := B2.size; (try simp at this); omega)
    have E2 : Below (w.heap.size + 1 + 1 + 1) (((w.alloc (.cells #[.slice a0_0 la0_0 ca0_0, .slice a0_1 la0_1 ca0_1] 30)).alloc (.cells #[.int .i64 a1_0, .int .i64 a1_1, .int .i64 a1_2] 32)).alloc (.cells #[.int .i64 0, .int .i64 0, .int .i64 0, .slice none 0 0, .slice none 0 0, .slice none 0 0, .slice none 0 0, .int .i64 0, .int .i64 0] 62)) V2 := E1.trans (B2.mono (by first | omega | (simp; done) | (simp; omega)))
    have D2 : Below w.heap.size w V2 := D1.trans (B2.mono (by first | omega | (simp; done) | (simp; omega)))
    clear hHeld
    (refine hK.out _ _ ?_ (fun hHeld => ?_))
    · exact ⟨q2_0, q2_1, q2_2, q2_3, q2_4⟩
    clear hK K
    ((refine wpAnyH_take (i := 10) (oi := ⟨some 10, _, _, _, _, _⟩) (v := ?_) rfl (by kernel_rfl) (by kernel_rfl) (by kernel_rfl) (fun _ _ _ h => h) (Or.inl ⟨by rfl, ?_⟩) (by assumption) ?_; rotate_left 1; (focus (intro w hSw; (try dsimp only at hSw); go_simp <;> try (first | (with_reducible rfl) | (rw [if_neg (by omega)]) | (rw [if_pos (by omega)])))); try simp only [Act.put, List.setIfInBounds_toArray, List.set_cons_zero, List.set_cons_succ]))
    refine wpAnyH_done (by kernel_rfl) ?_ _
    have E2H := Lib.hid E2
    have D2H := Lib.hid D2
    have Y0 := Lib.hid (show V2.cell? ⟨w.heap.size, 0, none⟩ = some (.slice a0_0 la0_0 ca0_0) ∧ V2.cell? ⟨w.heap.size, 1, none⟩ = some (.slice a0_1 la0_1 ca0_1) ∧ V2.cell? ⟨w.heap.size + 1, 0, none⟩ = some (.int .i64 a1_0) ∧ V2.cell? ⟨w.heap.size + 1, 1, none⟩ = some (.int .i64 a1_1) ∧ V2.cell? ⟨w.heap.size + 1, 2, none⟩ = some (.int .i64 a1_2) from ⟨q2_0, q2_1, q2_2, q2_3, q2_4⟩)
    clear E0 E1 E2 D0 D1 D2 B0 B1 B2 G0 G1
    go_wp2_with fail
    refine (pw_e a0_0 la0_0 ca0_0 a0_1 la0_1 ca0_1 a1_0 a1_1 a1_2 a3 a2 la2 ca2 _ ha2).mono ?_
    rintro e3 W3 ⟨tb, rfl, b3, tb1, tb2, hst⟩
    have b3' : Below V2.heap.size V2 W3 := ⟨b3.os, b3.tape, b3.output, b3.size, b3.block⟩
    have s3 : V2.heap.size ≤ W3.heap.size := b3'.size
    have E3H := Lib.hid (show Below (w.heap.size + 1 + 1 + 1) (((w.alloc (.cells #[.slice a0_0 la0_0 ca0_0, .slice a0_1 la0_1 ca0_1] 30)).alloc (.cells #[.int .i64 a1_0, .int .i64 a1_1, .int .i64 a1_2] 32)).alloc (.cells #[.int .i64 0, .int .i64 0, .int .i64 0, .slice none 0 0, .slice none 0 0, .slice none 0 0, .slice none 0 0, .int .i64 0, .int .i64 0] 62)) W3 from E2H.out.trans (b3'.mono (by omega)))
    have D3H := Lib.hid (show Below w.heap.size w W3 from D2H.out.trans (b3'.mono (by omega)))
    have HST := Lib.hid hst
    clear b3 b3' hst q2_0 q2_1 q2_2 q2_3 q2_4 hHeld
    go_wp2_with fail
    have PN := PBox.new W3 a1_0 a1_1 a1_2 0 0 a0_0 la0_0 ca0_0 a0_1 la0_1 ca0_1 (.slice a2 la2 ca2) (.slice (some ⟨tb, 0, none⟩) la2 la2)
    have A3 : Below W3.heap.size W3 (W3.alloc (.cells #[.int .i64 a1_0, .int .i64 a1_1, .int .i64 a1_2, .slice a0_0 la0_0 ca0_0, .slice a0_1 la0_1 ca0_1, .slice a2 la2 ca2, .slice (some ⟨tb, 0, none⟩) la2 la2, .int .i64 0, .int .i64 0] 62)) := Below.alloc (Below.refl _ _) (Nat.le_refl _) _
    have D4 := D3H.out.trans (A3.mono (show w.heap.size ≤ W3.heap.size by omega))
    have RK := Lib.hid (show RunOk (W3.alloc (.cells #[.int .i64 a1_0, .int .i64 a1_1, .int .i64 a1_2, .slice a0_0 la0_0 ca0_0, .slice a0_1 la0_1 ca0_1, .slice a2 la2 ca2, .slice (some ⟨tb, 0, none⟩) la2 la2, .int .i64 0, .int .i64 0] 62)) W3.heap.size a0_0 la0_0 ca0_0 xa0_0 a0_1 la0_1 ca0_1 xa0_1 a1_0 a1_1 a1_2 a2 la2 ca2 (some ⟨tb, 0, none⟩) la2 la2 xa2 (fun _ => a3) se0 se1 from
      ⟨PN, (RA.out.below D4).mono (by omega), (RB.out.below D4).mono (by omega), (RO.out.below D4).mono (by omega), ha0_0, ha0_1, by omega, Nat.le_refl _, ha2, fun k hk => ⟨tb, 0, rfl, tb1, (A3.cell (p := ⟨tb, 0 + k, none⟩) tb1).trans (HST.out k hk)⟩, HB.out, HH.out, (HS.out.below D4).mono (by omega)⟩)
    have E4H := Lib.hid (show Below (w.heap.size + 1 + 1 + 1) (((w.alloc (.cells #[.slice a0_0 la0_0 ca0_0, .slice a0_1 la0_1 ca0_1] 30)).alloc (.cells #[.int .i64 a1_0, .int .i64 a1_1, .int .i64 a1_2] 32)).alloc (.cells #[.int .i64 0, .int .i64 0, .int .i64 0, .slice none 0 0, .slice none 0 0, .slice none 0 0, .slice none 0 0, .int .i64 0, .int .i64 0] 62)) (W3.alloc (.cells #[.int .i64 a1_0, .int .i64 a1_1, .int .i64 a1_2, .slice a0_0 la0_0 ca0_0, .slice a0_1 la0_1 ca0_1, .slice a2 la2 ca2, .slice (some ⟨tb, 0, none⟩) la2 la2, .int .i64 0, .int .i64 0] 62)) from E3H.out.trans (A3.mono (by omega)))
    have D4H := Lib.hid D4
    clear PN A3 D4
    generalize hX : W3.alloc (.cells #[.int .i64 a1_0, .int .i64 a1_1, .int .i64 a1_2, .slice a0_0 la0_0 ca0_0, .slice a0_1 la0_1 ca0_1, .slice a2 la2 ca2, .slice (some ⟨tb, 0, none⟩) la2 la2, .int .i64 0, .int .i64 0] 62) = X at RK E4H D4H ⊢
    clear hX
    go_wp2_with fail
    refine (run_t X W3.heap.size a0_0 la0_0 ca0_0 xa0_0 a0_1 la0_1 ca0_1 xa0_1 a1_0 a1_1 a1_2 a2 la2 ca2 (some ⟨tb, 0, none⟩) la2 la2 xa2 (fun _ => a3) se0 se1 RK.out 95 #[.pointer (some ⟨W3.heap.size, 0, none⟩)] (fun _ => by kernel_rfl) (fun k => decide (0 < (itB xa0_0 xa0_1 a1_0 a1_1 a1_2 xa2 (fun _ => a3) k).a)) (fun k W hk q => clC_t W3.heap.size _ _ _ _ _ _ _ _ _ _ _ _ _ W q.pb _ rfl)).mono ?_
    rintro e5 W5 ⟨v, k, rfl, q5, hk5, hj5, hv5⟩
    have hq0 := RK.out.pb.sz
    have E5H := Lib.hid (show Below (w.heap.size + 1 + 1 + 1) (((w.alloc (.cells #[.slice a0_0 la0_0 ca0_0, .slice a0_1 la0_1 ca0_1] 30)).alloc (.cells #[.int .i64 a1_0, .int .i64 a1_1, .int .i64 a1_2] 32)).alloc (.cells #[.int .i64 0, .int .i64 0, .int .i64 0, .slice none 0 0, .slice none 0 0, .slice none 0 0, .slice none 0 0, .int .i64 0, .int .i64 0] 62)) W5 from E4H.out.trans (q5.ch.below (by omega) (by omega)))
    have D5H := Lib.hid (show Below w.heap.size w W5 from D4H.out.trans (q5.ch.below (by omega) (by omega)))
    have AOK := Lib.hid (show ∀ j, j ≤ la2 → 0 ≤ (itB xa0_0 xa0_1 a1_0 a1_1 a1_2 xa2 (fun _ => a3) j).a from fun j hj => (itB_ok HB.out HH.out j (by omega)).1.2.1.1.1)
    have HJ := Lib.hid hj5
    obtain ⟨s5, ⟨y0, y1, y2, y3, y4, y5, y6, y7, y8⟩, _⟩ := q5.pb
    obtain ⟨z0, z1, z2, z3, z4, z5, z6, z7, z8⟩ := zbox9 E5H.out
    have fr := zfr9 E5H.out
    have f0 := fr 0
    have f1 := fr 1
    have f2 := fr 2
    have f3 := fr 3
    have f4 := fr 4
    have f5 := fr 5
    have f6 := fr 6
    have f7 := fr 7
    have f8 := fr 8
    clear hj5 q5 fr
    rcases hv5 with ⟨rfl, hp5⟩ | ⟨rfl, rfl, hp5⟩
    · have ER := Lib.hid (YES.out k (by omega) (fun j hj => by have := of_decide_eq_true (HJ.out j hj); omega) (by have h1 := of_decide_eq_false hp5; have h2 := AOK.out k hk5; omega))
      obtain ⟨av, hav⟩ : ∃ v, v = (itB xa0_0 xa0_1 a1_0 a1_1 a1_2 xa2 (fun _ => a3) k).a := ⟨_, rfl⟩
      obtain ⟨cv, hcv⟩ : ∃ v, v = (itB xa0_0 xa0_1 a1_0 a1_1 a1_2 xa2 (fun _ => a3) k).c := ⟨_, rfl⟩
      obtain ⟨zv, hzv⟩ : ∃ v, v = (itB xa0_0 xa0_1 a1_0 a1_1 a1_2 xa2 (fun _ => a3) k).z := ⟨_, rfl⟩
      rw [← hav] at y0
      rw [← hcv] at y2
      rw [← hzv] at y8 ER
      clear hp5 hav hcv hzv
      go_wp2
      have PZ := nine_back (w := W5) (r := w.heap.size + 1 + 1) (v0 := .int .i64 av) (v1 := .int .i64 a1_1) (v2 := .int .i64 cv) (v3 := .slice a0_0 la0_0 ca0_0) (v4 := .slice a0_1 la0_1 ca0_1) (v5 := .slice a2 la2 ca2) (v6 := .slice (some ⟨tb, 0, none⟩) la2 la2) (v7 := .int .i64 (k : Int)) (v8 := .int .i64 zv) z0 z1 z2 z3 z4 z5 z6 z7 z8
      have le9 : ∀ j, w.heap.size ≤ (⟨w.heap.size + 1 + 1, j, none⟩ : Addr).block := fun j => (show w.heap.size ≤ w.heap.size + 1 + 1 by omega)
      have DZ : Below w.heap.size w (((((((((W5.setCell ⟨w.heap.size + 1 + 1, 0, none⟩ (.int .i64 av)).setCell ⟨w.heap.size + 1 + 1, 1, none⟩ (.int .i64 a1_1)).setCell ⟨w.heap.size + 1 + 1, 2, none⟩ (.int .i64 cv)).setCell ⟨w.heap.size + 1 + 1, 3, none⟩ (.slice a0_0 la0_0 ca0_0)).setCell ⟨w.heap.size + 1 + 1, 4, none⟩ (.slice a0_1 la0_1 ca0_1)).setCell ⟨w.heap.size + 1 + 1, 5, none⟩ (.slice a2 la2 ca2)).setCell ⟨w.heap.size + 1 + 1, 6, none⟩ (.slice (some ⟨tb, 0, none⟩) la2 la2)).setCell ⟨w.heap.size + 1 + 1, 7, none⟩ (.int .i64 (k : Int))).setCell ⟨w.heap.size + 1 + 1, 8, none⟩ (.int .i64 zv)) := (((((((((D5H.out.setCell (le9 0) _).setCell (le9 1) _).setCell (le9 2) _).setCell (le9 3) _).setCell (le9 4) _).setCell (le9 5) _).setCell (le9 6) _).setCell (le9 7) _).setCell (le9 8) _)
      generalize (((((((((W5.setCell ⟨w.heap.size + 1 + 1, 0, none⟩ (.int .i64 av)).setCell ⟨w.heap.size + 1 + 1, 1, none⟩ (.int .i64 a1_1)).setCell ⟨w.heap.size + 1 + 1, 2, none⟩ (.int .i64 cv)).setCell ⟨w.heap.size + 1 + 1, 3, none⟩ (.slice a0_0 la0_0 ca0_0)).setCell ⟨w.heap.size + 1 + 1, 4, none⟩ (.slice a0_1 la0_1 ca0_1)).setCell ⟨w.heap.size + 1 + 1, 5, none⟩ (.slice a2 la2 ca2)).setCell ⟨w.heap.size + 1 + 1, 6, none⟩ (.slice (some ⟨tb, 0, none⟩) la2 la2)).setCell ⟨w.heap.size + 1 + 1, 7, none⟩ (.int .i64 (k : Int))).setCell ⟨w.heap.size + 1 + 1, 8, none⟩ (.int .i64 zv)) = Zw at PZ DZ ⊢
      obtain ⟨p0, p1, p2, p3, p4, p5, p6, p7, p8⟩ := PZ
      exact bodyPost_ret (v := .tuple #[.agg #[.int .i64 av, .int .i64 a1_1, .int .i64 cv, .slice a0_0 la0_0 ca0_0, .slice a0_1 la0_1 ca0_1, .slice a2 la2 ca2, .slice (some ⟨tb, 0, none⟩) la2 la2, .int .i64 (k : Int), .int .i64 zv], .int .i64 0]) (by simp [results, Tryd.results67, go_sem, p0, p1, p2, p3, p4, p5, p6, p7, p8]) rfl ⟨_, _, _, _, _, _, _, _, _, _, _, _, _, _, _, (by rw [ER.out.1, ER.out.2.1, ER.out.2.2]), DZ⟩
    · have ER := Lib.hid (NO.out (fun j hj => by
        by_cases ej : j = k
        · subst ej; have := of_decide_eq_true hp5; omega
        · have := of_decide_eq_true (HJ.out j (by omega)); omega))
      clear hp5
      go_wp2
      have PZ := nine_back (w := W5) (r := w.heap.size + 1 + 1) (v0 := .int .i64 0) (v1 := .int .i64 0) (v2 := .int .i64 0) (v3 := .slice none 0 0) (v4 := .slice none 0 0) (v5 := .slice none 0 0) (v6 := .slice none 0 0) (v7 := .int .i64 0) (v8 := .int .i64 0) z0 z1 z2 z3 z4 z5 z6 z7 z8
      have le9 : ∀ j, w.heap.size ≤ (⟨w.heap.size + 1 + 1, j, none⟩ : Addr).block := fun j => (show w.heap.size ≤ w.heap.size + 1 + 1 by omega)
      have DZ : Below w.heap.size w (((((((((W5.setCell ⟨w.heap.size + 1 + 1, 0, none⟩ (.int .i64 0)).setCell ⟨w.heap.size + 1 + 1, 1, none⟩ (.int .i64 0)).setCell ⟨w.heap.size + 1 + 1, 2, none⟩ (.int .i64 0)).setCell ⟨w.heap.size + 1 + 1, 3, none⟩ (.slice none 0 0)).setCell ⟨w.heap.size + 1 + 1, 4, none⟩ (.slice none 0 0)).setCell ⟨w.heap.size + 1 + 1, 5, none⟩ (.slice none 0 0)).setCell ⟨w.heap.size + 1 + 1, 6, none⟩ (.slice none 0 0)).setCell ⟨w.heap.size + 1 + 1, 7, none⟩ (.int .i64 0)).setCell ⟨w.heap.size + 1 + 1, 8, none⟩ (.int .i64 0)) := (((((((((D5H.out.setCell (le9 0) _).setCell (le9 1) _).setCell (le9 2) _).setCell (le9 3) _).setCell (le9 4) _).setCell (le9 5) _).setCell (le9 6) _).setCell (le9 7) _).setCell (le9 8) _)
      generalize (((((((((W5.setCell ⟨w.heap.size + 1 + 1, 0, none⟩ (.int .i64 0)).setCell ⟨w.heap.size + 1 + 1, 1, none⟩ (.int .i64 0)).setCell ⟨w.heap.size + 1 + 1, 2, none⟩ (.int .i64 0)).setCell ⟨w.heap.size + 1 + 1, 3, none⟩ (.slice none 0 0)).setCell ⟨w.heap.size + 1 + 1, 4, none⟩ (.slice none 0 0)).setCell ⟨w.heap.size + 1 + 1, 5, none⟩ (.slice none 0 0)).setCell ⟨w.heap.size + 1 + 1, 6, none⟩ (.slice none 0 0)).setCell ⟨w.heap.size + 1 + 1, 7, none⟩ (.int .i64 0)).setCell ⟨w.heap.size + 1 + 1, 8, none⟩ (.int .i64 0)) = Zw at PZ DZ ⊢
      obtain ⟨p0, p1, p2, p3, p4, p5, p6, p7, p8⟩ := PZ
      exact bodyPost_ret (v := .tuple #[.agg #[.int .i64 0, .int .i64 0, .int .i64 0, .slice none 0 0, .slice none 0 0, .slice none 0 0, .slice none 0 0, .int .i64 0, .int .i64 0], .int .i64 3]) (by simp [results, Tryd.results67, go_sem, p0, p1, p2, p3, p4, p5, p6, p7, p8]) rfl ⟨_, _, _, _, _, _, _, _, _, _, _, _, _, _, _, (by rw [ER.out.1, ER.out.2.1, ER.out.2.2]), DZ⟩
  · obtain ⟨k, hk⟩ : ∃ k, k = bcode xa0_0 xa0_1 a1_0 a1_1 a1_2 (stepsOk xa2 ∧ stoOk a3) := ⟨_, rfl⟩
    have hn := bcode_n h
    rw [← hk] at hn
    have HK := Lib.hid hk
    have ER := Lib.hid (show R0 = 0 ∧ RZ = 0 ∧ R1 = k by rw [hR0, hR1, hRZ]; unfold hcH hcZ hcK; rw [if_neg (fun g => h g.1), if_neg (fun g => h g.1), if_neg (fun g => h g.1)]; exact ⟨rfl, rfl, hk.symm⟩)
    by_cases h1 : stepsOk xa2
    · obtain ⟨t, ht⟩ : ∃ t, t = decide (stoOk a3) := ⟨_, rfl⟩
      have HA := Lib.hid (show true = decide (stepsOk xa2) from (decide_eq_true h1).symm)
      have HT := Lib.hid ht
      have HP := Lib.hid (show t = decide (stepsOk xa2 ∧ stoOk a3) by rw [ht]; exact decide_eq_decide.2 ⟨fun g => ⟨h1, g⟩, fun g => g.2⟩)
      clear h h1 hk hR0 hR1 hRZ ht
      go_enter Tryd.func67, Tryd.ntmps67
      go_wp2_with fail
      refine wp_region_held_drew (S := fun w' => w'.cell? ⟨w.heap.size, 0, none⟩ = some (.slice a0_0 la0_0 ca0_0) ∧ w'.cell? ⟨w.heap.size, 1, none⟩ = some (.slice a0_1 la0_1 ca0_1) ∧ w'.cell? ⟨w.heap.size + 1, 0, none⟩ = some (.int .i64 a1_0) ∧ w'.cell? ⟨w.heap.size + 1, 1, none⟩ = some (.int .i64 a1_1) ∧ w'.cell? ⟨w.heap.size + 1, 2, none⟩ = some (.int .i64 a1_2)) (by kernel_rfl) ⟨by first | (simp; done) | go_simp, by first | (simp; done) | go_simp, by first | (simp; done) | go_simp, by first | (simp; done) | go_simp, by first | (simp; done) | go_simp⟩ (fun hHeld => ?_)
      ((refine wpAnyH_take (i := 0) (oi := ⟨some 12, _, _, _, _, _⟩) (v := ?_) rfl (by kernel_rfl) (by kernel_rfl) (by kernel_rfl) (fun _ _ _ h => h) (Or.inl ⟨by rfl, ?_⟩) (by assumption) ?_; rotate_left 1; (focus (intro w hSw; (try dsimp only at hSw); go_simp <;> try (first | (with_reducible rfl) | (rw [if_neg (by omega)]) | (rw [if_pos (by omega)])))); try simp only [Act.put, List.setIfInBounds_toArray, List.set_cons_zero, List.set_cons_succ]); (refine wpAnyH_take (i := 1) (oi := ⟨some 13, _, _, _, _, _⟩) (v := ?_) rfl (by kernel_rfl) (by kernel_rfl) (by kernel_rfl) (fun _ _ _ h => h) (Or.inl ⟨by rfl, ?_⟩) (by assumption) ?_; rotate_left 1; (focus (intro w hSw; (try dsimp only at hSw); go_simp <;> try (first | (with_reducible rfl) | (rw [if_neg (by omega)]) | (rw [if_pos (by omega)])))); try simp only [Act.put, List.setIfInBounds_toArray, List.set_cons_zero, List.set_cons_succ]); (refine wpAnyH_take (i := 2) (oi := ⟨some 14, _, _, _, _, _⟩) (v := ?_) rfl (by kernel_rfl) (by kernel_rfl) (by kernel_rfl) (fun _ _ _ h => h) (Or.inl ⟨by rfl, ?_⟩) (by assumption) ?_; rotate_left 1; (focus (intro w hSw; (try dsimp only at hSw); go_simp <;> try (first | (with_reducible rfl) | (rw [if_neg (by omega)]) | (rw [if_pos (by omega)])))); try simp only [Act.put, List.setIfInBounds_toArray, List.set_cons_zero, List.set_cons_succ]))
      (refine wpAnyH_ready (rs := [3]) (by kernel_rfl) (by simp) ?_; refine AllReadyH.cons rfl (fun K hK => ?_) AllReadyH.nil; go_simp)
      refine (asI_any a2 la2 ca2 xa2 _ ha2 ((RO.out.below (by repeat (first | assumption | exact Below.refl _ _ | (refine Below.setCell ?_ (by first | omega | (simp; done) | (simp; omega)) _) | apply below_drewN | apply Below.drew | (refine Below.alloc ?_ (by first | omega | (simp; done) | (simp; omega)) _)))).mono (by first | omega | (simp; done) | (simp; omega))) true HA.out).mono ?_
      rintro e0v V0 ⟨rfl, B0⟩
      have q0_0 := (B0.cell (p := ⟨w.heap.size, 0, none⟩) (by first | omega | (simp; done) | (simp; omega))).trans hHeld.1
      have q0_1 := (B0.cell (p := ⟨w.heap.size, 1, none⟩) (by first | omega | (simp; done) | (simp; omega))).trans hHeld.2.1
      have q0_2 := (B0.cell (p := ⟨w.heap.size + 1, 0, none⟩) (by first | omega | (simp; done) | (simp; omega))).trans hHeld.2.2.1
      have q0_3 := (B0.cell (p := ⟨w.heap.size + 1, 1, none⟩) (by first | omega | (simp; done) | (simp; omega))).trans hHeld.2.2.2.1
      have q0_4 := (B0.cell (p := ⟨w.heap.size + 1, 2, none⟩) (by first | omega | (simp; done) | (simp; omega))).trans hHeld.2.2.2.2
      have G0 : w.heap.size + 1 + 1 < V0.heap.size := (by have := B0.size; (try simp at this); omega)
      have E0 : Below (w.heap.size + 1 + 1 + 1) (((w.alloc (.cells #[.slice a0_0 la0_0 ca0_0, .slice a0_1 la0_1 ca0_1] 30)).alloc (.cells #[.int .i64 a1_0, .int .i64 a1_1, .int .i64 a1_2] 32)).alloc (.cells #[.int .i64 0, .int .i64 0, .int .i64 0, .slice none 0 0, .slice none 0 0, .slice none 0 0, .slice none 0 0, .int .i64 0, .int .i64 0] 62)) V0 := (by repeat (first | assumption | exact Below.refl _ _ | (refine Below.trans ?_ (B0.mono (by first | omega | (simp; done) | (simp; omega)))) | (refine Below.setCell ?_ (by first | omega | (simp; done) | (simp; omega)) _) | apply below_drewN | apply Below.drew | (refine Below.alloc ?_ (by first | omega | (simp; done) | (simp; omega)) _)))
      have D0 : Below w.heap.size w V0 := (by repeat (first | assumption | exact Below.refl _ _ | (refine Below.trans ?_ (B0.mono (by first | omega | (simp; done) | (simp; omega)))) | (refine Below.setCell ?_ (by first | omega | (simp; done) | (simp; omega)) _) | apply below_drewN | apply Below.drew | (refine Below.alloc ?_ (by first | omega | (simp; done) | (simp; omega)) _)))
      clear hHeld
      (refine hK.out _ _ ?_ (fun hHeld => ?_))
      · exact ⟨q0_0, q0_1, q0_2, q0_3, q0_4⟩
      clear hK K
      ((refine wpAnyH_take (i := 4) (oi := ⟨some 16, _, _, _, _, _⟩) (v := ?_) rfl (by kernel_rfl) (by kernel_rfl) (by kernel_rfl) (fun _ _ _ h => h) (Or.inl ⟨by rfl, ?_⟩) (by assumption) ?_; rotate_left 1; (focus (intro w hSw; (try dsimp only at hSw); go_simp <;> try (first | (with_reducible rfl) | (rw [if_neg (by omega)]) | (rw [if_pos (by omega)])))); try simp only [Act.put, List.setIfInBounds_toArray, List.set_cons_zero, List.set_cons_succ]); (refine wpAnyH_take (i := 5) (oi := ⟨some 17, _, _, _, _, _⟩) (v := ?_) rfl (by kernel_rfl) (by kernel_rfl) (by kernel_rfl) (fun _ _ _ h => h) (Or.inl ⟨by rfl, ?_⟩) (by assumption) ?_; rotate_left 1; (focus (intro w hSw; (try dsimp only at hSw); go_simp <;> try (first | (with_reducible rfl) | (rw [if_neg (by omega)]) | (rw [if_pos (by omega)])))); try simp only [Act.put, List.setIfInBounds_toArray, List.set_cons_zero, List.set_cons_succ]))
      refine wpAnyH_ready (rs := [6]) (by kernel_rfl) (by simp) ?_
      refine AllReadyH.cons (o := ⟨some 18, _, _, _, _, _⟩) rfl (fun K hK => ?_) AllReadyH.nil
      go_simp
      clear hHeld
      (refine hK.out _ _ ?_ (fun hHeld => ?_))
      · exact ⟨((Below.alloc (Below.refl _ _) (Nat.le_refl _) _ : Below _ _ _).cell (p := ⟨w.heap.size, 0, none⟩) (by first | omega | (simp; done) | (simp; omega))).trans q0_0, ((Below.alloc (Below.refl _ _) (Nat.le_refl _) _ : Below _ _ _).cell (p := ⟨w.heap.size, 1, none⟩) (by first | omega | (simp; done) | (simp; omega))).trans q0_1, ((Below.alloc (Below.refl _ _) (Nat.le_refl _) _ : Below _ _ _).cell (p := ⟨w.heap.size + 1, 0, none⟩) (by first | omega | (simp; done) | (simp; omega))).trans q0_2, ((Below.alloc (Below.refl _ _) (Nat.le_refl _) _ : Below _ _ _).cell (p := ⟨w.heap.size + 1, 1, none⟩) (by first | omega | (simp; done) | (simp; omega))).trans q0_3, ((Below.alloc (Below.refl _ _) (Nat.le_refl _) _ : Below _ _ _).cell (p := ⟨w.heap.size + 1, 2, none⟩) (by first | omega | (simp; done) | (simp; omega))).trans q0_4⟩
      clear hK K
      try simp only [Act.put, List.setIfInBounds_toArray, List.set_cons_zero, List.set_cons_succ]
      (refine wpAnyH_ready (rs := [7]) (by kernel_rfl) (by simp) ?_; refine AllReadyH.cons rfl (fun K hK => ?_) AllReadyH.nil; go_simp)
      refine (thI_one _ a3 _ (by simp) (by first | (simp; done) | go_simp) t HT.out).mono ?_
      rintro e1v V1 ⟨rfl, B1⟩
      have q1_0 := (B1.cell (p := ⟨w.heap.size, 0, none⟩) (by first | omega | (simp; done) | (simp; omega))).trans hHeld.1
      have q1_1 := (B1.cell (p := ⟨w.heap.size, 1, none⟩) (by first | omega | (simp; done) | (simp; omega))).trans hHeld.2.1
      have q1_2 := (B1.cell (p := ⟨w.heap.size + 1, 0, none⟩) (by first | omega | (simp; done) | (simp; omega))).trans hHeld.2.2.1
      have q1_3 := (B1.cell (p := ⟨w.heap.size + 1, 1, none⟩) (by first | omega | (simp; done) | (simp; omega))).trans hHeld.2.2.2.1
      have q1_4 := (B1.cell (p := ⟨w.heap.size + 1, 2, none⟩) (by first | omega | (simp; done) | (simp; omega))).trans hHeld.2.2.2.2
      have G1 : w.heap.size + 1 + 1 < V1.heap.size := (by have := B1.size; (try simp at this); omega)
      have E1 : Below (w.heap.size + 1 + 1 + 1) (((w.alloc (.cells #[.slice a0_0 la0_0 ca0_0, .slice a0_1 la0_1 ca0_1] 30)).alloc (.cells #[.int .i64 a1_0, .int .i64 a1_1, .int .i64 a1_2] 32)).alloc (.cells #[.int .i64 0, .int .i64 0, .int .i64 0, .slice none 0 0, .slice none 0 0, .slice none 0 0, .slice none 0 0, .int .i64 0, .int .i64 0] 62)) V1 := (by repeat (first | assumption | exact Below.refl _ _ | (refine Below.trans ?_ (B1.mono (by first | omega | (simp; done) | (simp; omega)))) | (refine Below.trans ?_ (E0.mono (by first | omega | (simp; done) | (simp; omega)))) | (refine Below.setCell ?_ (by first | omega | (simp; done) | (simp; omega)) _) | apply below_drewN | apply Below.drew | (refine Below.alloc ?_ (by first | omega | (simp; done) | (simp; omega)) _)))
      have D1 : Below w.heap.size w V1 := (by repeat (first | assumption | exact Below.refl _ _ | (refine Below.trans ?_ (B1.mono (by first | omega | (simp; done) | (simp; omega)))) | (refine Below.trans ?_ (D0.mono (by first | omega | (simp; done) | (simp; omega)))) | (refine Below.setCell ?_ (by first | omega | (simp; done) | (simp; omega)) _) | apply below_drewN | apply Below.drew | (refine Below.alloc ?_ (by first | omega | (simp; done) | (simp; omega)) _)))
      clear hHeld
      (refine hK.out _ _ ?_ (fun hHeld => ?_))
      · exact ⟨q1_0, q1_1, q1_2, q1_3, q1_4⟩
      clear hK K
      ((refine wpAnyH_take (i := 8) (oi := ⟨some 20, _, _, _, _, _⟩) (v := ?_) rfl (by kernel_rfl) (by kernel_rfl) (by kernel_rfl) (fun _ _ _ h => h) (Or.inl ⟨by rfl, ?_⟩) (by assumption) ?_; rotate_left 1; (focus (intro w hSw; (try dsimp only at hSw); go_simp <;> try (first | (with_reducible rfl) | (rw [if_neg (by omega)]) | (rw [if_pos (by omega)])))); try simp only [Act.put, List.setIfInBounds_toArray, List.set_cons_zero, List.set_cons_succ]))
      (refine wpAnyH_ready (rs := [9]) (by kernel_rfl) (by simp) ?_; refine AllReadyH.cons rfl (fun K hK => ?_) AllReadyH.nil; go_simp)
      refine (bcI_any a0_0 la0_0 ca0_0 xa0_0 a0_1 la0_1 ca0_1 xa0_1 a1_0 a1_1 a1_2 t _ ha0_0 ha0_1 ((RA.out.below (by repeat (first | assumption | exact Below.refl _ _ | (refine Below.trans ?_ (D1.mono (by first | omega | (simp; done) | (simp; omega)))) | (refine Below.setCell ?_ (by first | omega | (simp; done) | (simp; omega)) _) | apply below_drewN | apply Below.drew | (refine Below.alloc ?_ (by first | omega | (simp; done) | (simp; omega)) _)))).mono (by first | omega | (simp; done) | (simp; omega))) ((RB.out.below (by repeat (first | assumption | exact Below.refl _ _ | (refine Below.trans ?_ (D1.mono (by first | omega | (simp; done) | (simp; omega)))) | (refine Below.setCell ?_ (by first | omega | (simp; done) | (simp; omega)) _) | apply below_drewN | apply Below.drew | (refine Below.alloc ?_ (by first | omega | (simp; done) | (simp; omega)) _)))).mono (by first | omega | (simp; done) | (simp; omega))) (stepsOk xa2 ∧ stoOk a3) HP.out k HK.out).mono ?_
      rintro e2v V2 ⟨rfl, B2⟩
      have q2_0 := (B2.cell (p := ⟨w.heap.size, 0, none⟩) (by first | omega | (simp; done) | (simp; omega))).trans hHeld.1
      have q2_1 := (B2.cell (p := ⟨w.heap.size, 1, none⟩) (by first | omega | (simp; done) | (simp; omega))).trans hHeld.2.1
      have q2_2 := (B2.cell (p := ⟨w.heap.size + 1, 0, none⟩) (by first | omega | (simp; done) | (simp; omega))).trans hHeld.2.2.1
      have q2_3 := (B2.cell (p := ⟨w.heap.size + 1, 1, none⟩) (by first | omega | (simp; done) | (simp; omega))).trans hHeld.2.2.2.1
      have q2_4 := (B2.cell (p := ⟨w.heap.size + 1, 2, none⟩) (by first | omega | (simp; done) | (simp; omega))).trans hHeld.2.2.2.2
      have G2 : w.heap.size + 1 + 1 < V2.heap.size := (by have := B2.size; (try simp at this); omega)
      have E2 : Below (w.heap.size + 1 + 1 + 1) (((w.alloc (.cells #[.slice a0_0 la0_0 ca0_0, .slice a0_1 la0_1 ca0_1] 30)).alloc (.cells #[.int .i64 a1_0, .int .i64 a1_1, .int .i64 a1_2] 32)).alloc (.cells #[.int .i64 0, .int .i64 0, .int .i64 0, .slice none 0 0, .slice none 0 0, .slice none 0 0, .slice none 0 0, .int .i64 0, .int .i64 0] 62)) V2 := E1.trans (B2.mono (by first | omega | (simp; done) | (simp; omega)))
      have D2 : Below w.heap.size w V2 := D1.trans (B2.mono (by first | omega | (simp; done) | (simp; omega)))
      clear hHeld
      (refine hK.out _ _ ?_ (fun hHeld => ?_))
      · exact ⟨q2_0, q2_1, q2_2, q2_3, q2_4⟩
      clear hK K
      ((refine wpAnyH_take (i := 10) (oi := ⟨some 10, _, _, _, _, _⟩) (v := ?_) rfl (by kernel_rfl) (by kernel_rfl) (by kernel_rfl) (fun _ _ _ h => h) (Or.inl ⟨by rfl, ?_⟩) (by assumption) ?_; rotate_left 1; (focus (intro w hSw; (try dsimp only at hSw); go_simp <;> try (first | (with_reducible rfl) | (rw [if_neg (by omega)]) | (rw [if_pos (by omega)])))); try simp only [Act.put, List.setIfInBounds_toArray, List.set_cons_zero, List.set_cons_succ]))
      refine wpAnyH_done (by kernel_rfl) ?_ _
      obtain ⟨z0, z1, z2, z3, z4, z5, z6, z7, z8⟩ := zbox9 E2
      have fr := zfr9 E2
      have f0 := fr 0
      have f1 := fr 1
      have f2 := fr 2
      have f3 := fr 3
      have f4 := fr 4
      have f5 := fr 5
      have f6 := fr 6
      have f7 := fr 7
      have f8 := fr 8
      have d1 := D2
      clear fr E0 E1 E2 D0 D1 D2 B0 B1 B2 q2_0 q2_1 q2_2 q2_3 q2_4 hHeld
      go_wp2
      have PZ := nine_back (w := V2) (r := w.heap.size + 1 + 1) (v0 := .int .i64 0) (v1 := .int .i64 0) (v2 := .int .i64 0) (v3 := .slice none 0 0) (v4 := .slice none 0 0) (v5 := .slice none 0 0) (v6 := .slice none 0 0) (v7 := .int .i64 0) (v8 := .int .i64 0) z0 z1 z2 z3 z4 z5 z6 z7 z8
      have le9 : ∀ j, w.heap.size ≤ (⟨w.heap.size + 1 + 1, j, none⟩ : Addr).block := fun j => (show w.heap.size ≤ w.heap.size + 1 + 1 by omega)
      have DZ : Below w.heap.size w (((((((((V2.setCell ⟨w.heap.size + 1 + 1, 0, none⟩ (.int .i64 0)).setCell ⟨w.heap.size + 1 + 1, 1, none⟩ (.int .i64 0)).setCell ⟨w.heap.size + 1 + 1, 2, none⟩ (.int .i64 0)).setCell ⟨w.heap.size + 1 + 1, 3, none⟩ (.slice none 0 0)).setCell ⟨w.heap.size + 1 + 1, 4, none⟩ (.slice none 0 0)).setCell ⟨w.heap.size + 1 + 1, 5, none⟩ (.slice none 0 0)).setCell ⟨w.heap.size + 1 + 1, 6, none⟩ (.slice none 0 0)).setCell ⟨w.heap.size + 1 + 1, 7, none⟩ (.int .i64 0)).setCell ⟨w.heap.size + 1 + 1, 8, none⟩ (.int .i64 0)) := (((((((((d1.setCell (le9 0) _).setCell (le9 1) _).setCell (le9 2) _).setCell (le9 3) _).setCell (le9 4) _).setCell (le9 5) _).setCell (le9 6) _).setCell (le9 7) _).setCell (le9 8) _)
      generalize (((((((((V2.setCell ⟨w.heap.size + 1 + 1, 0, none⟩ (.int .i64 0)).setCell ⟨w.heap.size + 1 + 1, 1, none⟩ (.int .i64 0)).setCell ⟨w.heap.size + 1 + 1, 2, none⟩ (.int .i64 0)).setCell ⟨w.heap.size + 1 + 1, 3, none⟩ (.slice none 0 0)).setCell ⟨w.heap.size + 1 + 1, 4, none⟩ (.slice none 0 0)).setCell ⟨w.heap.size + 1 + 1, 5, none⟩ (.slice none 0 0)).setCell ⟨w.heap.size + 1 + 1, 6, none⟩ (.slice none 0 0)).setCell ⟨w.heap.size + 1 + 1, 7, none⟩ (.int .i64 0)).setCell ⟨w.heap.size + 1 + 1, 8, none⟩ (.int .i64 0)) = Zw at PZ DZ ⊢
      obtain ⟨p0, p1, p2, p3, p4, p5, p6, p7, p8⟩ := PZ
      exact bodyPost_ret (v := .tuple #[.agg #[.int .i64 0, .int .i64 0, .int .i64 0, .slice none 0 0, .slice none 0 0, .slice none 0 0, .slice none 0 0, .int .i64 0, .int .i64 0], .int .i64 k]) (by simp [results, Tryd.results67, go_sem, p0, p1, p2, p3, p4, p5, p6, p7, p8]) rfl ⟨_, _, _, _, _, _, _, _, _, _, _, _, _, _, _, (by rw [ER.out.1, ER.out.2.1, ER.out.2.2]), DZ⟩
    · have HA := Lib.hid (show false = decide (stepsOk xa2) from (decide_eq_false h1).symm)
      have HP := Lib.hid (show false = decide (stepsOk xa2 ∧ stoOk a3) from (decide_eq_false (fun g => h1 g.1)).symm)
      clear h h1 hk hR0 hR1 hRZ
      go_enter Tryd.func67, Tryd.ntmps67
      go_wp2_with fail
      refine wp_region_held_drew (S := fun w' => w'.cell? ⟨w.heap.size, 0, none⟩ = some (.slice a0_0 la0_0 ca0_0) ∧ w'.cell? ⟨w.heap.size, 1, none⟩ = some (.slice a0_1 la0_1 ca0_1) ∧ w'.cell? ⟨w.heap.size + 1, 0, none⟩ = some (.int .i64 a1_0) ∧ w'.cell? ⟨w.heap.size + 1, 1, none⟩ = some (.int .i64 a1_1) ∧ w'.cell? ⟨w.heap.size + 1, 2, none⟩ = some (.int .i64 a1_2)) (by kernel_rfl) ⟨by first | (simp; done) | go_simp, by first | (simp; done) | go_simp, by first | (simp; done) | go_simp, by first | (simp; done) | go_simp, by first | (simp; done) | go_simp⟩ (fun hHeld => ?_)
      ((refine wpAnyH_take (i := 0) (oi := ⟨some 12, _, _, _, _, _⟩) (v := ?_) rfl (by kernel_rfl) (by kernel_rfl) (by kernel_rfl) (fun _ _ _ h => h) (Or.inl ⟨by rfl, ?_⟩) (by assumption) ?_; rotate_left 1; (focus (intro w hSw; (try dsimp only at hSw); go_simp <;> try (first | (with_reducible rfl) | (rw [if_neg (by omega)]) | (rw [if_pos (by omega)])))); try simp only [Act.put, List.setIfInBounds_toArray, List.set_cons_zero, List.set_cons_succ]); (refine wpAnyH_take (i := 1) (oi := ⟨some 13, _, _, _, _, _⟩) (v := ?_) rfl (by kernel_rfl) (by kernel_rfl) (by kernel_rfl) (fun _ _ _ h => h) (Or.inl ⟨by rfl, ?_⟩) (by assumption) ?_; rotate_left 1; (focus (intro w hSw; (try dsimp only at hSw); go_simp <;> try (first | (with_reducible rfl) | (rw [if_neg (by omega)]) | (rw [if_pos (by omega)])))); try simp only [Act.put, List.setIfInBounds_toArray, List.set_cons_zero, List.set_cons_succ]); (refine wpAnyH_take (i := 2) (oi := ⟨some 14, _, _, _, _, _⟩) (v := ?_) rfl (by kernel_rfl) (by kernel_rfl) (by kernel_rfl) (fun _ _ _ h => h) (Or.inl ⟨by rfl, ?_⟩) (by assumption) ?_; rotate_left 1; (focus (intro w hSw; (try dsimp only at hSw); go_simp <;> try (first | (with_reducible rfl) | (rw [if_neg (by omega)]) | (rw [if_pos (by omega)])))); try simp only [Act.put, List.setIfInBounds_toArray, List.set_cons_zero, List.set_cons_succ]))
      (refine wpAnyH_ready (rs := [3]) (by kernel_rfl) (by simp) ?_; refine AllReadyH.cons rfl (fun K hK => ?_) AllReadyH.nil; go_simp)
      refine (asI_any a2 la2 ca2 xa2 _ ha2 ((RO.out.below (by repeat (first | assumption | exact Below.refl _ _ | (refine Below.setCell ?_ (by first | omega | (simp; done) | (simp; omega)) _) | apply below_drewN | apply Below.drew | (refine Below.alloc ?_ (by first | omega | (simp; done) | (simp; omega)) _)))).mono (by first | omega | (simp; done) | (simp; omega))) false HA.out).mono ?_
      rintro e0v V0 ⟨rfl, B0⟩
      have q0_0 := (B0.cell (p := ⟨w.heap.size, 0, none⟩) (by first | omega | (simp; done) | (simp; omega))).trans hHeld.1
      have q0_1 := (B0.cell (p := ⟨w.heap.size, 1, none⟩) (by first | omega | (simp; done) | (simp; omega))).trans hHeld.2.1
      have q0_2 := (B0.cell (p := ⟨w.heap.size + 1, 0, none⟩) (by first | omega | (simp; done) | (simp; omega))).trans hHeld.2.2.1
      have q0_3 := (B0.cell (p := ⟨w.heap.size + 1, 1, none⟩) (by first | omega | (simp; done) | (simp; omega))).trans hHeld.2.2.2.1
      have q0_4 := (B0.cell (p := ⟨w.heap.size + 1, 2, none⟩) (by first | omega | (simp; done) | (simp; omega))).trans hHeld.2.2.2.2
      have G0 : w.heap.size + 1 + 1 < V0.heap.size := (by have := B0.size; (try simp at this); omega)
      have E0 : Below (w.heap.size + 1 + 1 + 1) (((w.alloc (.cells #[.slice a0_0 la0_0 ca0_0, .slice a0_1 la0_1 ca0_1] 30)).alloc (.cells #[.int .i64 a1_0, .int .i64 a1_1, .int .i64 a1_2] 32)).alloc (.cells #[.int .i64 0, .int .i64 0, .int .i64 0, .slice none 0 0, .slice none 0 0, .slice none 0 0, .slice none 0 0, .int .i64 0, .int .i64 0] 62)) V0 := (by repeat (first | assumption | exact Below.refl _ _ | (refine Below.trans ?_ (B0.mono (by first | omega | (simp; done) | (simp; omega)))) | (refine Below.setCell ?_ (by first | omega | (simp; done) | (simp; omega)) _) | apply below_drewN | apply Below.drew | (refine Below.alloc ?_ (by first | omega | (simp; done) | (simp; omega)) _)))
      have D0 : Below w.heap.size w V0 := (by repeat (first | assumption | exact Below.refl _ _ | (refine Below.trans ?_ (B0.mono (by first | omega | (simp; done) | (simp; omega)))) | (refine Below.setCell ?_ (by first | omega | (simp; done) | (simp; omega)) _) | apply below_drewN | apply Below.drew | (refine Below.alloc ?_ (by first | omega | (simp; done) | (simp; omega)) _)))
      clear hHeld
      (refine hK.out _ _ ?_ (fun hHeld => ?_))
      · exact ⟨q0_0, q0_1, q0_2, q0_3, q0_4⟩
      clear hK K
      ((refine wpAnyH_take (i := 4) (oi := ⟨some 16, _, _, _, _, _⟩) (v := ?_) rfl (by kernel_rfl) (by kernel_rfl) (by kernel_rfl) (fun _ _ _ h => h) (Or.inl ⟨by rfl, ?_⟩) (by assumption) ?_; rotate_left 1; (focus (intro w hSw; (try dsimp only at hSw); go_simp <;> try (first | (with_reducible rfl) | (rw [if_neg (by omega)]) | (rw [if_pos (by omega)])))); try simp only [Act.put, List.setIfInBounds_toArray, List.set_cons_zero, List.set_cons_succ]); (refine wpAnyH_take (i := 5) (oi := ⟨some 17, _, _, _, _, _⟩) (v := undef) rfl (by kernel_rfl) (by kernel_rfl) (by kernel_rfl) (fun _ _ _ h => h) (Or.inr ⟨by rfl, rfl⟩) (by assumption) ?_; try simp only [Act.put, List.setIfInBounds_toArray, List.set_cons_zero, List.set_cons_succ]); (refine wpAnyH_take (i := 6) (oi := ⟨some 18, _, _, _, _, _⟩) (v := undef) rfl (by kernel_rfl) (by kernel_rfl) (by kernel_rfl) (fun _ _ _ h => h) (Or.inr ⟨by rfl, rfl⟩) (by assumption) ?_; try simp only [Act.put, List.setIfInBounds_toArray, List.set_cons_zero, List.set_cons_succ]); (refine wpAnyH_take (i := 7) (oi := ⟨some 19, _, _, _, _, _⟩) (v := undef) rfl (by kernel_rfl) (by kernel_rfl) (by kernel_rfl) (fun _ _ _ h => h) (Or.inr ⟨by rfl, rfl⟩) (by assumption) ?_; try simp only [Act.put, List.setIfInBounds_toArray, List.set_cons_zero, List.set_cons_succ]); (refine wpAnyH_take (i := 8) (oi := ⟨some 20, _, _, _, _, _⟩) (v := ?_) rfl (by kernel_rfl) (by kernel_rfl) (by kernel_rfl) (fun _ _ _ h => h) (Or.inl ⟨by rfl, ?_⟩) (by assumption) ?_; rotate_left 1; (focus (intro w hSw; (try dsimp only at hSw); go_simp <;> try (first | (with_reducible rfl) | (rw [if_neg (by omega)]) | (rw [if_pos (by omega)])))); try simp only [Act.put, List.setIfInBounds_toArray, List.set_cons_zero, List.set_cons_succ]))
      (refine wpAnyH_ready (rs := [9]) (by kernel_rfl) (by simp) ?_; refine AllReadyH.cons rfl (fun K hK => ?_) AllReadyH.nil; go_simp)
      refine (bcI_any a0_0 la0_0 ca0_0 xa0_0 a0_1 la0_1 ca0_1 xa0_1 a1_0 a1_1 a1_2 false _ ha0_0 ha0_1 ((RA.out.below (by repeat (first | assumption | exact Below.refl _ _ | (refine Below.trans ?_ (D0.mono (by first | omega | (simp; done) | (simp; omega)))) | (refine Below.setCell ?_ (by first | omega | (simp; done) | (simp; omega)) _) | apply below_drewN | apply Below.drew | (refine Below.alloc ?_ (by first | omega | (simp; done) | (simp; omega)) _)))).mono (by first | omega | (simp; done) | (simp; omega))) ((RB.out.below (by repeat (first | assumption | exact Below.refl _ _ | (refine Below.trans ?_ (D0.mono (by first | omega | (simp; done) | (simp; omega)))) | (refine Below.setCell ?_ (by first | omega | (simp; done) | (simp; omega)) _) | apply below_drewN | apply Below.drew | (refine Below.alloc ?_ (by first | omega | (simp; done) | (simp; omega)) _)))).mono (by first | omega | (simp; done) | (simp; omega))) (stepsOk xa2 ∧ stoOk a3) HP.out k HK.out).mono ?_
      rintro e2v V2 ⟨rfl, B2⟩
      have q2_0 := (B2.cell (p := ⟨w.heap.size, 0, none⟩) (by first | omega | (simp; done) | (simp; omega))).trans hHeld.1
      have q2_1 := (B2.cell (p := ⟨w.heap.size, 1, none⟩) (by first | omega | (simp; done) | (simp; omega))).trans hHeld.2.1
      have q2_2 := (B2.cell (p := ⟨w.heap.size + 1, 0, none⟩) (by first | omega | (simp; done) | (simp; omega))).trans hHeld.2.2.1
      have q2_3 := (B2.cell (p := ⟨w.heap.size + 1, 1, none⟩) (by first | omega | (simp; done) | (simp; omega))).trans hHeld.2.2.2.1
      have q2_4 := (B2.cell (p := ⟨w.heap.size + 1, 2, none⟩) (by first | omega | (simp; done) | (simp; omega))).trans hHeld.2.2.2.2
      have G2 : w.heap.size + 1 + 1 < V2.heap.size := (by have := B2.size; (try simp at this); omega)
      have E2 : Below (w.heap.size + 1 + 1 + 1) (((w.alloc (.cells #[.slice a0_0 la0_0 ca0_0, .slice a0_1 la0_1 ca0_1] 30)).alloc (.cells #[.int .i64 a1_0, .int .i64 a1_1, .int .i64 a1_2] 32)).alloc (.cells #[.int .i64 0, .int .i64 0, .int .i64 0, .slice none 0 0, .slice none 0 0, .slice none 0 0, .slice none 0 0, .int .i64 0, .int .i64 0] 62)) V2 := E0.trans (B2.mono (by first | omega | (simp; done) | (simp; omega)))
      have D2 : Below w.heap.size w V2 := D0.trans (B2.mono (by first | omega | (simp; done) | (simp; omega)))
      clear hHeld
      (refine hK.out _ _ ?_ (fun hHeld => ?_))
      · exact ⟨q2_0, q2_1, q2_2, q2_3, q2_4⟩
      clear hK K
      ((refine wpAnyH_take (i := 10) (oi := ⟨some 10, _, _, _, _, _⟩) (v := ?_) rfl (by kernel_rfl) (by kernel_rfl) (by kernel_rfl) (fun _ _ _ h => h) (Or.inl ⟨by rfl, ?_⟩) (by assumption) ?_; rotate_left 1; (focus (intro w hSw; (try dsimp only at hSw); go_simp <;> try (first | (with_reducible rfl) | (rw [if_neg (by omega)]) | (rw [if_pos (by omega)])))); try simp only [Act.put, List.setIfInBounds_toArray, List.set_cons_zero, List.set_cons_succ]))
      refine wpAnyH_done (by kernel_rfl) ?_ _
      obtain ⟨z0, z1, z2, z3, z4, z5, z6, z7, z8⟩ := zbox9 E2
      have fr := zfr9 E2
      have f0 := fr 0
      have f1 := fr 1
      have f2 := fr 2
      have f3 := fr 3
      have f4 := fr 4
      have f5 := fr 5
      have f6 := fr 6
      have f7 := fr 7
      have f8 := fr 8
      have d1 := D2
      clear fr E0 E2 D0 D2 B0 B2 q2_0 q2_1 q2_2 q2_3 q2_4 hHeld
      go_wp2
      have PZ := nine_back (w := V2) (r := w.heap.size + 1 + 1) (v0 := .int .i64 0) (v1 := .int .i64 0) (v2 := .int .i64 0) (v3 := .slice none 0 0) (v4 := .slice none 0 0) (v5 := .slice none 0 0) (v6 := .slice none 0 0) (v7 := .int .i64 0) (v8 := .int .i64 0) z0 z1 z2 z3 z4 z5 z6 z7 z8
      have le9 : ∀ j, w.heap.size ≤ (⟨w.heap.size + 1 + 1, j, none⟩ : Addr).block := fun j => (show w.heap.size ≤ w.heap.size + 1 + 1 by omega)
      have DZ : Below w.heap.size w (((((((((V2.setCell ⟨w.heap.size + 1 + 1, 0, none⟩ (.int .i64 0)).setCell ⟨w.heap.size + 1 + 1, 1, none⟩ (.int .i64 0)).setCell ⟨w.heap.size + 1 + 1, 2, none⟩ (.int .i64 0)).setCell ⟨w.heap.size + 1 + 1, 3, none⟩ (.slice none 0 0)).setCell ⟨w.heap.size + 1 + 1, 4, none⟩ (.slice none 0 0)).setCell ⟨w.heap.size + 1 + 1, 5, none⟩ (.slice none 0 0)).setCell ⟨w.heap.size + 1 + 1, 6, none⟩ (.slice none 0 0)).setCell ⟨w.heap.size + 1 + 1, 7, none⟩ (.int .i64 0)).setCell ⟨w.heap.size + 1 + 1, 8, none⟩ (.int .i64 0)) := (((((((((d1.setCell (le9 0) _).setCell (le9 1) _).setCell (le9 2) _).setCell (le9 3) _).setCell (le9 4) _).setCell (le9 5) _).setCell (le9 6) _).setCell (le9 7) _).setCell (le9 8) _)
      generalize (((((((((V2.setCell ⟨w.heap.size + 1 + 1, 0, none⟩ (.int .i64 0)).setCell ⟨w.heap.size + 1 + 1, 1, none⟩ (.int .i64 0)).setCell ⟨w.heap.size + 1 + 1, 2, none⟩ (.int .i64 0)).setCell ⟨w.heap.size + 1 + 1, 3, none⟩ (.slice none 0 0)).setCell ⟨w.heap.size + 1 + 1, 4, none⟩ (.slice none 0 0)).setCell ⟨w.heap.size + 1 + 1, 5, none⟩ (.slice none 0 0)).setCell ⟨w.heap.size + 1 + 1, 6, none⟩ (.slice none 0 0)).setCell ⟨w.heap.size + 1 + 1, 7, none⟩ (.int .i64 0)).setCell ⟨w.heap.size + 1 + 1, 8, none⟩ (.int .i64 0)) = Zw at PZ DZ ⊢
      obtain ⟨p0, p1, p2, p3, p4, p5, p6, p7, p8⟩ := PZ
      exact bodyPost_ret (v := .tuple #[.agg #[.int .i64 0, .int .i64 0, .int .i64 0, .slice none 0 0, .slice none 0 0, .slice none 0 0, .slice none 0 0, .int .i64 0, .int .i64 0], .int .i64 k]) (by simp [results, Tryd.results67, go_sem, p0, p1, p2, p3, p4, p5, p6, p7, p8]) rfl ⟨_, _, _, _, _, _, _, _, _, _, _, _, _, _, _, (by rw [ER.out.1, ER.out.2.1, ER.out.2.2]), DZ⟩


end Go.Proofs.YtckhfkgldemcnaaDoor
