/- High and low waters of the program. -/
import Derived.Test.YticbnahndidplaaDoorTideI
namespace Go.Proofs.YticbnahndidplaaDoor
open Go.RowKit

theorem below_drew' {w w' : World} (h : Below w.drew.heap.size w.drew w') : Below w.heap.size w w' := ⟨h.os, h.tape, h.output, h.size, h.block⟩
theorem nxL_len (n : Nat) (xs : List RTide) (k : Nat) : (nxL n xs k).length ≤ 1048576 := by
  unfold nxL; split <;> split <;> simp
theorem any_up_nx (n : Nat) (xs : List RTide) (k : Nat) : any_up (tL xs k) (nxL n xs k).length (nxL n xs k) ↔ ¬ hiAt n xs k := by
  unfold any_up hiAt nxL
  by_cases a : 0 < k <;> by_cases b : k + 1 < n
  · rw [if_pos a, if_pos b]
    constructor
    · rintro ⟨j, hj, h⟩ ⟨g1, g2⟩
      rcases (show j = 0 ∨ j = 1 by simp at hj; omega) with rfl | rfl
      · have := g1 a; simp [tL] at h this; omega
      · have := g2 b; simp [tL] at h this; omega
    · intro h
      by_cases c : tL xs (k - 1) < tL xs k
      · refine ⟨1, by simp, ?_⟩
        have : ¬ tL xs (k + 1) < tL xs k := fun g => h ⟨fun _ => c, fun _ => g⟩
        simp [tL] at this ⊢; omega
      · exact ⟨0, by simp, by simp [tL] at c ⊢; omega⟩
  · rw [if_pos a, if_neg b]
    constructor
    · rintro ⟨j, hj, h⟩ ⟨g1, g2⟩
      obtain rfl : j = 0 := by simp at hj; omega
      have := g1 a; simp [tL] at h this; omega
    · intro h
      refine ⟨0, by simp, ?_⟩
      have : ¬ tL xs (k - 1) < tL xs k := fun g => h ⟨fun _ => g, fun g => absurd g b⟩
      simp [tL] at this ⊢; omega
  · rw [if_neg a, if_pos b]
    constructor
    · rintro ⟨j, hj, h⟩ ⟨g1, g2⟩
      obtain rfl : j = 0 := by simp at hj; omega
      have := g2 b; simp [tL] at h this; omega
    · intro h
      refine ⟨0, by simp, ?_⟩
      have : ¬ tL xs (k + 1) < tL xs k := fun g => h ⟨fun g => absurd g a, fun _ => g⟩
      simp [tL] at this ⊢; omega
  · rw [if_neg a, if_neg b]
    constructor
    · rintro ⟨j, hj, h⟩; simp at hj
    · intro h; exact absurd ⟨fun g => absurd g a, fun g => absurd g b⟩ h
theorem any_dn_nx (n : Nat) (xs : List RTide) (k : Nat) : any_dn (tL xs k) (nxL n xs k).length (nxL n xs k) ↔ ¬ loAt n xs k := by
  unfold any_dn loAt nxL
  by_cases a : 0 < k <;> by_cases b : k + 1 < n
  · rw [if_pos a, if_pos b]
    constructor
    · rintro ⟨j, hj, h⟩ ⟨g1, g2⟩
      rcases (show j = 0 ∨ j = 1 by simp at hj; omega) with rfl | rfl
      · have := g1 a; simp [tL] at h this; omega
      · have := g2 b; simp [tL] at h this; omega
    · intro h
      by_cases c : tL xs k < tL xs (k - 1)
      · refine ⟨1, by simp, ?_⟩
        have : ¬ tL xs k < tL xs (k + 1) := fun g => h ⟨fun _ => c, fun _ => g⟩
        simp [tL] at this ⊢; omega
      · exact ⟨0, by simp, by simp [tL] at c ⊢; omega⟩
  · rw [if_pos a, if_neg b]
    constructor
    · rintro ⟨j, hj, h⟩ ⟨g1, g2⟩
      obtain rfl : j = 0 := by simp at hj; omega
      have := g1 a; simp [tL] at h this; omega
    · intro h
      refine ⟨0, by simp, ?_⟩
      have : ¬ tL xs k < tL xs (k - 1) := fun g => h ⟨fun _ => g, fun g => absurd g b⟩
      simp [tL] at this ⊢; omega
  · rw [if_neg a, if_pos b]
    constructor
    · rintro ⟨j, hj, h⟩ ⟨g1, g2⟩
      obtain rfl : j = 0 := by simp at hj; omega
      have := g2 b; simp [tL] at h this; omega
    · intro h
      refine ⟨0, by simp, ?_⟩
      have : ¬ tL xs k < tL xs (k + 1) := fun g => h ⟨fun g => absurd g a, fun _ => g⟩
      simp [tL] at this ⊢; omega
  · rw [if_neg a, if_neg b]
    constructor
    · rintro ⟨j, hj, h⟩; simp at hj
    · intro h; exact absurd ⟨fun g => absurd g a, fun g => absurd g b⟩ h
theorem nextTo_t (b o n c k : Nat) (xs : List RTide) (w : World) (hn : n ≤ 1048576) (hcap : n ≤ c) (ha : Rd_Tide w w.heap.size (some ⟨b, o, none⟩) n xs) (hk : k < n) :
    Calls Tryd.prog 104 #[.slice (some ⟨b, o, none⟩) n c, .int .i64 (k : Int)] w fun e w' => ∃ B d, e = .returned (.slice B (nxL n xs k).length d) ∧ Below w.heap.size w w' ∧ Rd_Tide w' w'.heap.size B (nxL n xs k).length (nxL n xs k) := by
  by_cases a : 0 < k <;> by_cases h : k + 1 < n
  · exact nextTo_mid b o n c k xs w hn hcap ha a h
  · exact nextTo_hi b o n c k xs w hn hcap ha a (by omega)
  · exact nextTo_lo b o n c k xs w hn hcap ha (by omega) (by omega)
  · exact nextTo_one b o n c k xs w hn hcap ha (by omega) (by omega)

set_option maxRecDepth 100000 in
set_option maxHeartbeats 3200000 in
theorem isHigh_t (A : Option Addr) (n c k : Nat) (xs : List RTide) (w : World) (hn : n ≤ 1048576) (hcap : n ≤ c) (ha : Rd_Tide w w.heap.size A n xs) (hk : k < n) (u : Bool) (hu : u = decide (hiAt n xs k)) :
    Calls Tryd.prog 92 #[.slice A n c, .int .i64 (k : Int)] w fun e w' => e = .returned (.bool u) ∧ Below w.heap.size w w' := by
  obtain ⟨b, o, rfl, hbB, hc⟩ := ha.ml (by omega)
  obtain ⟨p0, p1⟩ := hc k hk
  have HA := Lib.hid ha
  have HLN := Lib.hid (nxL_len n xs k)
  obtain ⟨v, hv⟩ : ∃ v : Bool, v = !u := ⟨_, rfl⟩
  have HV := Lib.hid (show v = true ↔ any_up (tL xs k) (nxL n xs k).length (nxL n xs k) by
    rw [any_up_nx, hv, hu]
    simp)
  have HV2 := Lib.hid (show (!v) = u by rw [hv]; simp)
  have g0 : (0 : Int) ≤ (k : Int) := by omega
  have g2 : (k : Int) < (n : Int) := by omega
  clear hv hu hc ha
  generalize tM xs k = m at *
  generalize tL xs k = l at *
  go_enter Tryd.func92, Tryd.ntmps92
  go_wp2_with fail
  refine wp_region_held_drew (S := fun w' => w'.cell? ⟨b, o + k * 2, none⟩ = some (.int .i64 m) ∧ w'.cell? ⟨b, o + k * 2 + 1, none⟩ = some (.int .i64 l)) (by kernel_rfl) ⟨p0, p1⟩ (fun hHeld => ?_)
  ((refine wpAnyH_take (i := 0) (oi := ⟨some 5, _, _, _, _, _⟩) (v := ?_) rfl (by kernel_rfl) (by kernel_rfl) (by kernel_rfl) (fun _ _ _ h => h) (Or.inl ⟨by rfl, ?_⟩) (by assumption) ?_; rotate_left 1; (focus (intro w hSw; (try dsimp only at hSw); go_simp <;> try (first | (with_reducible rfl) | (rw [if_neg (by omega)]) | (rw [if_pos (by omega)])))); try simp only [Act.put, List.setIfInBounds_toArray, List.set_cons_zero, List.set_cons_succ]); (refine wpAnyH_take (i := 1) (oi := ⟨some 6, _, _, _, _, _⟩) (v := ?_) rfl (by kernel_rfl) (by kernel_rfl) (by kernel_rfl) (fun _ _ _ h => h) (Or.inl ⟨by rfl, ?_⟩) (by assumption) ?_; rotate_left 1; (focus (intro w hSw; (try dsimp only at hSw); go_simp <;> try (first | (with_reducible rfl) | (rw [if_neg (by omega)]) | (rw [if_pos (by omega)])))); try simp only [Act.put, List.setIfInBounds_toArray, List.set_cons_zero, List.set_cons_succ]); (refine wpAnyH_take (i := 3) (oi := ⟨some 8, _, _, _, _, _⟩) (v := ?_) rfl (by kernel_rfl) (by kernel_rfl) (by kernel_rfl) (fun _ _ _ h => h) (Or.inl ⟨by rfl, ?_⟩) (by assumption) ?_; rotate_left 1; (focus (intro w hSw; (try dsimp only at hSw); go_simp <;> try (first | (with_reducible rfl) | (rw [if_neg (by omega)]) | (rw [if_pos (by omega)])))); try simp only [Act.put, List.setIfInBounds_toArray, List.set_cons_zero, List.set_cons_succ]); (refine wpAnyH_take (i := 4) (oi := ⟨some 9, _, _, _, _, _⟩) (v := ?_) rfl (by kernel_rfl) (by kernel_rfl) (by kernel_rfl) (fun _ _ _ h => h) (Or.inl ⟨by rfl, ?_⟩) (by assumption) ?_; rotate_left 1; (focus (intro w hSw; (try dsimp only at hSw); go_simp <;> try (first | (with_reducible rfl) | (rw [if_neg (by omega)]) | (rw [if_pos (by omega)])))); try simp only [Act.put, List.setIfInBounds_toArray, List.set_cons_zero, List.set_cons_succ]); (refine wpAnyH_take (i := 5) (oi := ⟨some 10, _, _, _, _, _⟩) (v := ?_) rfl (by kernel_rfl) (by kernel_rfl) (by kernel_rfl) (fun _ _ _ h => h) (Or.inl ⟨by rfl, ?_⟩) (by assumption) ?_; rotate_left 1; (focus (intro w hSw; (try dsimp only at hSw); go_simp <;> try (first | (with_reducible rfl) | (rw [if_neg (by omega)]) | (rw [if_pos (by omega)])))); try simp only [Act.put, List.setIfInBounds_toArray, List.set_cons_zero, List.set_cons_succ]); (refine wpAnyH_take (i := 6) (oi := ⟨some 11, _, _, _, _, _⟩) (v := ?_) rfl (by kernel_rfl) (by kernel_rfl) (by kernel_rfl) (fun _ _ _ h => h) (Or.inl ⟨by rfl, ?_⟩) (by assumption) ?_; rotate_left 1; (focus (intro w hSw; (try dsimp only at hSw); go_simp <;> try (first | (with_reducible rfl) | (rw [if_neg (by omega)]) | (rw [if_pos (by omega)])))); try simp only [Act.put, List.setIfInBounds_toArray, List.set_cons_zero, List.set_cons_succ]); (refine wpAnyH_take (i := 7) (oi := ⟨some 12, _, _, _, _, _⟩) (v := ?_) rfl (by kernel_rfl) (by kernel_rfl) (by kernel_rfl) (fun _ _ _ h => h) (Or.inl ⟨by rfl, ?_⟩) (by assumption) ?_; rotate_left 1; (focus (intro w hSw; (try dsimp only at hSw); go_simp <;> try (first | (with_reducible rfl) | (rw [if_neg (by omega)]) | (rw [if_pos (by omega)])))); try simp only [Act.put, List.setIfInBounds_toArray, List.set_cons_zero, List.set_cons_succ]))
  refine wpAnyH_ready (rs := [2]) (by kernel_rfl) (by simp) ?_
  refine AllReadyH.cons (o := ⟨some 7, _, _, _, _, _⟩) rfl (fun K hK => ?_) AllReadyH.nil
  go_simp
  refine (nextTo_t _ _ _ _ _ xs _ hn hcap (HA.out.below' ((Below.refl _ _).drew)) hk).mono ?_
  rintro e1 W1 ⟨B', d', rfl, b1, hrd⟩
  have z0 := (b1.cell (p := ⟨b, o + k * 2, none⟩) hbB).trans hHeld.1
  have z1 := (b1.cell (p := ⟨b, o + k * 2 + 1, none⟩) hbB).trans hHeld.2
  have HRD := Lib.hid hrd
  have d1 : Below w.heap.size w W1 := below_drew' b1
  have g1 := b1.size
  clear hrd b1
  clear hHeld
  (refine hK.out _ _ ?_ (fun hHeld => ?_))
  · exact ⟨z0, z1⟩
  refine wpAnyH_ready (rs := [8]) (by kernel_rfl) (by simp) ?_
  refine AllReadyH.cons (o := ⟨some 13, _, _, _, _, _⟩) rfl (fun K hK => ?_) AllReadyH.nil
  go_simp
  refine (cf_up _ _ _ _ _ (nxL n xs k) _ HLN.out HRD.out v HV.out).mono ?_
  rintro e2 W2 ⟨rfl, b2⟩
  have d2 : Below w.heap.size w W2 := d1.trans (b2.mono d1.size)
  have y0 := (b2.cell (p := ⟨b, o + k * 2, none⟩) (Nat.lt_of_lt_of_le hbB d1.size)).trans hHeld.1
  have y1 := (b2.cell (p := ⟨b, o + k * 2 + 1, none⟩) (Nat.lt_of_lt_of_le hbB d1.size)).trans hHeld.2
  clear b2
  clear hHeld
  (refine hK.out _ _ ?_ (fun hHeld => ?_))
  · exact ⟨y0, y1⟩
  ((refine wpAnyH_take (i := 9) (oi := ⟨some 14, _, _, _, _, _⟩) (v := ?_) rfl (by kernel_rfl) (by kernel_rfl) (by kernel_rfl) (fun _ _ _ h => h) (Or.inl ⟨by rfl, ?_⟩) (by assumption) ?_; rotate_left 1; (focus (intro w hSw; (try dsimp only at hSw); go_simp <;> try (first | (with_reducible rfl) | (rw [if_neg (by omega)]) | (rw [if_pos (by omega)])))); try simp only [Act.put, List.setIfInBounds_toArray, List.set_cons_zero, List.set_cons_succ]); (refine wpAnyH_take (i := 10) (oi := ⟨some 4, _, _, _, _, _⟩) (v := ?_) rfl (by kernel_rfl) (by kernel_rfl) (by kernel_rfl) (fun _ _ _ h => h) (Or.inl ⟨by rfl, ?_⟩) (by assumption) ?_; rotate_left 1; (focus (intro w hSw; (try dsimp only at hSw); go_simp <;> try (first | (with_reducible rfl) | (rw [if_neg (by omega)]) | (rw [if_pos (by omega)])))); try simp only [Act.put, List.setIfInBounds_toArray, List.set_cons_zero, List.set_cons_succ]))
  refine wpAnyH_done (by kernel_rfl) ?_ _
  go_wp2
  go_ret
  exact ⟨ret_bool HV2.out, d2⟩

set_option maxRecDepth 100000 in
set_option maxHeartbeats 3200000 in
theorem isLow_t (A : Option Addr) (n c k : Nat) (xs : List RTide) (w : World) (hn : n ≤ 1048576) (hcap : n ≤ c) (ha : Rd_Tide w w.heap.size A n xs) (hk : k < n) (u : Bool) (hu : u = decide (loAt n xs k)) :
    Calls Tryd.prog 93 #[.slice A n c, .int .i64 (k : Int)] w fun e w' => e = .returned (.bool u) ∧ Below w.heap.size w w' := by
  obtain ⟨b, o, rfl, hbB, hc⟩ := ha.ml (by omega)
  obtain ⟨p0, p1⟩ := hc k hk
  have HA := Lib.hid ha
  have HLN := Lib.hid (nxL_len n xs k)
  obtain ⟨v, hv⟩ : ∃ v : Bool, v = !u := ⟨_, rfl⟩
  have HV := Lib.hid (show v = true ↔ any_dn (tL xs k) (nxL n xs k).length (nxL n xs k) by
    rw [any_dn_nx, hv, hu]
    simp)
  have HV2 := Lib.hid (show (!v) = u by rw [hv]; simp)
  have g0 : (0 : Int) ≤ (k : Int) := by omega
  have g2 : (k : Int) < (n : Int) := by omega
  clear hv hu hc ha
  generalize tM xs k = m at *
  generalize tL xs k = l at *
  go_enter Tryd.func93, Tryd.ntmps93
  go_wp2_with fail
  refine wp_region_held_drew (S := fun w' => w'.cell? ⟨b, o + k * 2, none⟩ = some (.int .i64 m) ∧ w'.cell? ⟨b, o + k * 2 + 1, none⟩ = some (.int .i64 l)) (by kernel_rfl) ⟨p0, p1⟩ (fun hHeld => ?_)
  ((refine wpAnyH_take (i := 0) (oi := ⟨some 5, _, _, _, _, _⟩) (v := ?_) rfl (by kernel_rfl) (by kernel_rfl) (by kernel_rfl) (fun _ _ _ h => h) (Or.inl ⟨by rfl, ?_⟩) (by assumption) ?_; rotate_left 1; (focus (intro w hSw; (try dsimp only at hSw); go_simp <;> try (first | (with_reducible rfl) | (rw [if_neg (by omega)]) | (rw [if_pos (by omega)])))); try simp only [Act.put, List.setIfInBounds_toArray, List.set_cons_zero, List.set_cons_succ]); (refine wpAnyH_take (i := 1) (oi := ⟨some 6, _, _, _, _, _⟩) (v := ?_) rfl (by kernel_rfl) (by kernel_rfl) (by kernel_rfl) (fun _ _ _ h => h) (Or.inl ⟨by rfl, ?_⟩) (by assumption) ?_; rotate_left 1; (focus (intro w hSw; (try dsimp only at hSw); go_simp <;> try (first | (with_reducible rfl) | (rw [if_neg (by omega)]) | (rw [if_pos (by omega)])))); try simp only [Act.put, List.setIfInBounds_toArray, List.set_cons_zero, List.set_cons_succ]); (refine wpAnyH_take (i := 3) (oi := ⟨some 8, _, _, _, _, _⟩) (v := ?_) rfl (by kernel_rfl) (by kernel_rfl) (by kernel_rfl) (fun _ _ _ h => h) (Or.inl ⟨by rfl, ?_⟩) (by assumption) ?_; rotate_left 1; (focus (intro w hSw; (try dsimp only at hSw); go_simp <;> try (first | (with_reducible rfl) | (rw [if_neg (by omega)]) | (rw [if_pos (by omega)])))); try simp only [Act.put, List.setIfInBounds_toArray, List.set_cons_zero, List.set_cons_succ]); (refine wpAnyH_take (i := 4) (oi := ⟨some 9, _, _, _, _, _⟩) (v := ?_) rfl (by kernel_rfl) (by kernel_rfl) (by kernel_rfl) (fun _ _ _ h => h) (Or.inl ⟨by rfl, ?_⟩) (by assumption) ?_; rotate_left 1; (focus (intro w hSw; (try dsimp only at hSw); go_simp <;> try (first | (with_reducible rfl) | (rw [if_neg (by omega)]) | (rw [if_pos (by omega)])))); try simp only [Act.put, List.setIfInBounds_toArray, List.set_cons_zero, List.set_cons_succ]); (refine wpAnyH_take (i := 5) (oi := ⟨some 10, _, _, _, _, _⟩) (v := ?_) rfl (by kernel_rfl) (by kernel_rfl) (by kernel_rfl) (fun _ _ _ h => h) (Or.inl ⟨by rfl, ?_⟩) (by assumption) ?_; rotate_left 1; (focus (intro w hSw; (try dsimp only at hSw); go_simp <;> try (first | (with_reducible rfl) | (rw [if_neg (by omega)]) | (rw [if_pos (by omega)])))); try simp only [Act.put, List.setIfInBounds_toArray, List.set_cons_zero, List.set_cons_succ]); (refine wpAnyH_take (i := 6) (oi := ⟨some 11, _, _, _, _, _⟩) (v := ?_) rfl (by kernel_rfl) (by kernel_rfl) (by kernel_rfl) (fun _ _ _ h => h) (Or.inl ⟨by rfl, ?_⟩) (by assumption) ?_; rotate_left 1; (focus (intro w hSw; (try dsimp only at hSw); go_simp <;> try (first | (with_reducible rfl) | (rw [if_neg (by omega)]) | (rw [if_pos (by omega)])))); try simp only [Act.put, List.setIfInBounds_toArray, List.set_cons_zero, List.set_cons_succ]); (refine wpAnyH_take (i := 7) (oi := ⟨some 12, _, _, _, _, _⟩) (v := ?_) rfl (by kernel_rfl) (by kernel_rfl) (by kernel_rfl) (fun _ _ _ h => h) (Or.inl ⟨by rfl, ?_⟩) (by assumption) ?_; rotate_left 1; (focus (intro w hSw; (try dsimp only at hSw); go_simp <;> try (first | (with_reducible rfl) | (rw [if_neg (by omega)]) | (rw [if_pos (by omega)])))); try simp only [Act.put, List.setIfInBounds_toArray, List.set_cons_zero, List.set_cons_succ]))
  refine wpAnyH_ready (rs := [2]) (by kernel_rfl) (by simp) ?_
  refine AllReadyH.cons (o := ⟨some 7, _, _, _, _, _⟩) rfl (fun K hK => ?_) AllReadyH.nil
  go_simp
  refine (nextTo_t _ _ _ _ _ xs _ hn hcap (HA.out.below' ((Below.refl _ _).drew)) hk).mono ?_
  rintro e1 W1 ⟨B', d', rfl, b1, hrd⟩
  have z0 := (b1.cell (p := ⟨b, o + k * 2, none⟩) hbB).trans hHeld.1
  have z1 := (b1.cell (p := ⟨b, o + k * 2 + 1, none⟩) hbB).trans hHeld.2
  have HRD := Lib.hid hrd
  have d1 : Below w.heap.size w W1 := below_drew' b1
  have g1 := b1.size
  clear hrd b1
  clear hHeld
  (refine hK.out _ _ ?_ (fun hHeld => ?_))
  · exact ⟨z0, z1⟩
  refine wpAnyH_ready (rs := [8]) (by kernel_rfl) (by simp) ?_
  refine AllReadyH.cons (o := ⟨some 13, _, _, _, _, _⟩) rfl (fun K hK => ?_) AllReadyH.nil
  go_simp
  refine (cf_dn _ _ _ _ _ (nxL n xs k) _ HLN.out HRD.out v HV.out).mono ?_
  rintro e2 W2 ⟨rfl, b2⟩
  have d2 : Below w.heap.size w W2 := d1.trans (b2.mono d1.size)
  have y0 := (b2.cell (p := ⟨b, o + k * 2, none⟩) (Nat.lt_of_lt_of_le hbB d1.size)).trans hHeld.1
  have y1 := (b2.cell (p := ⟨b, o + k * 2 + 1, none⟩) (Nat.lt_of_lt_of_le hbB d1.size)).trans hHeld.2
  clear b2
  clear hHeld
  (refine hK.out _ _ ?_ (fun hHeld => ?_))
  · exact ⟨y0, y1⟩
  ((refine wpAnyH_take (i := 9) (oi := ⟨some 14, _, _, _, _, _⟩) (v := ?_) rfl (by kernel_rfl) (by kernel_rfl) (by kernel_rfl) (fun _ _ _ h => h) (Or.inl ⟨by rfl, ?_⟩) (by assumption) ?_; rotate_left 1; (focus (intro w hSw; (try dsimp only at hSw); go_simp <;> try (first | (with_reducible rfl) | (rw [if_neg (by omega)]) | (rw [if_pos (by omega)])))); try simp only [Act.put, List.setIfInBounds_toArray, List.set_cons_zero, List.set_cons_succ]); (refine wpAnyH_take (i := 10) (oi := ⟨some 4, _, _, _, _, _⟩) (v := ?_) rfl (by kernel_rfl) (by kernel_rfl) (by kernel_rfl) (fun _ _ _ h => h) (Or.inl ⟨by rfl, ?_⟩) (by assumption) ?_; rotate_left 1; (focus (intro w hSw; (try dsimp only at hSw); go_simp <;> try (first | (with_reducible rfl) | (rw [if_neg (by omega)]) | (rw [if_pos (by omega)])))); try simp only [Act.put, List.setIfInBounds_toArray, List.set_cons_zero, List.set_cons_succ]))
  refine wpAnyH_done (by kernel_rfl) ?_ _
  go_wp2
  go_ret
  exact ⟨ret_bool HV2.out, d2⟩

end Go.Proofs.YticbnahndidplaaDoor
