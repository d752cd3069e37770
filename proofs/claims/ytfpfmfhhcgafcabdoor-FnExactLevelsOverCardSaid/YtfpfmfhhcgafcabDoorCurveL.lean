/- Contracts of the program: the least level with a volume, or why there is none. -/
import Derived.Test.YtfpfmfhhcgafcabDoorLeastC
import Derived.Test.YtfpfmfhhcgafcabDoorErr
namespace Go.Proofs.YtfpfmfhhcgafcabDoor
open Go.RowKit

set_option maxHeartbeats 1600000 in
theorem levelAt_neg (A0 : Option Addr) (n0 k0 : Nat) (ls : List Int) (A1 : Option Addr) (n1 k1 : Nat) (vs : List Int) (v : Int) (w : World) (a0 a1 : Addr) (hs : Sent w w.heap.size a0 a1) (hn0 : n0 ≤ 1048576) (hn1 : n1 ≤ 1048576) (ha : Rd w w.heap.size A0 n0 ls) (hv : Rd w w.heap.size A1 n1 vs) (hc : CurveOk ls vs) (h : v < 0) :
    Calls Tryd.prog 30 #[.agg #[.slice A0 n0 k0, .slice A1 n1 k1], .int .i64 v] w fun e w' => e = .returned (.tuple #[.int .i64 0, .iface 103 (.pointer (some a0))]) ∧ Below w.heap.size w w' := by
  have g0 := hs.v0
  have hb := hs.b
  have g2 : ¬ 0 = w.heap.size := by omega
  have g3 : 0 < w.heap.size := by omega
  clear hs ha hv hc
  go_enter Tryd.func30, Tryd.ntmps30
  go_wp2_with fail
  go_quiet (fail)
  go_wp2
  go_ret2
  exact ⟨rfl, (by repeat (first | assumption | exact Below.refl _ _ | (refine Below.setCell ?_ (by first | omega | (simp; done) | (simp; omega)) _) | apply below_drewN | apply Below.drew | (refine Below.alloc ?_ (by first | omega | (simp; done) | (simp; omega)) _)))⟩

set_option maxRecDepth 100000 in
set_option maxHeartbeats 1600000 in
theorem levelAt_much (A0 : Option Addr) (n0 k0 : Nat) (ls : List Int) (A1 : Option Addr) (n1 k1 : Nat) (vs : List Int) (v : Int) (w : World) (a0 a1 : Addr) (hs : Sent w w.heap.size a0 a1) (hn0 : n0 ≤ 1048576) (hn1 : n1 ≤ 1048576) (ha : Rd w w.heap.size A0 n0 ls) (hv : Rd w w.heap.size A1 n1 vs) (hc : CurveOk ls vs) (h0 : ¬ v < 0) (h : vs.getD (vs.length - 1) 0 < v) :
    Calls Tryd.prog 30 #[.agg #[.slice A0 n0 k0, .slice A1 n1 k1], .int .i64 v] w fun e w' => e = .returned (.tuple #[.int .i64 0, .iface 103 (.pointer (some a1))]) ∧ Below w.heap.size w w' := by
  have hl0 := ha.1
  have hl1 := hv.1
  have HA := Lib.hid ha
  have HV := Lib.hid hv
  have HC := Lib.hid hc
  have HS := Lib.hid hs
  have h12 := hc.1
  have i0 : 0 < n0 := by omega
  obtain ⟨z, hz⟩ : ∃ z, z = ls.getD (n0 - 1) 0 := ⟨_, rfl⟩
  have HZ := Lib.hid hz
  have hz2 : z = ls.getD (ls.length - 1) 0 := by rw [hl0]; exact hz
  have HY := Lib.hid (show onC ls z by rw [hz2]; exact onC_last hc)
  obtain ⟨u, hu⟩ : ∃ u, u = vAt ls vs z := ⟨_, rfl⟩
  have HU := Lib.hid hu
  have huv : u = vs.getD (vs.length - 1) 0 := by rw [hu, hz2]; exact vAt_last hc
  have hgt : v > u := by omega
  have hsb := hs.b
  clear ha hv hc hs hz hz2 hu huv h
  go_enter Tryd.func30, Tryd.ntmps30
  go_wp2_with fail
  refine wp_region_held_drew (S := fun w' => w'.cell? ⟨w.heap.size, 0, none⟩ = some (.slice A0 n0 k0) ∧ w'.cell? ⟨w.heap.size, 1, none⟩ = some (.slice A1 n1 k1)) (by kernel_rfl) ⟨by simp, by simp⟩ (fun hHeld => ?_)
  ((refine wpAnyH_take (i := 0) (oi := ⟨some 9, _, _, _, _, _⟩) (v := ?_) rfl (by kernel_rfl) (by kernel_rfl) (by kernel_rfl) (fun _ _ _ h => h) (Or.inl ⟨by rfl, ?_⟩) (by assumption) ?_; rotate_left 1; (focus (intro w hSw; (try dsimp only at hSw); go_simp <;> try (first | (with_reducible rfl) | (rw [if_neg (by omega)]) | (rw [if_pos (by omega)])))); try simp only [Act.put, List.setIfInBounds_toArray, List.set_cons_zero, List.set_cons_succ]); (refine wpAnyH_take (i := 1) (oi := ⟨some 10, _, _, _, _, _⟩) (v := ?_) rfl (by kernel_rfl) (by kernel_rfl) (by kernel_rfl) (fun _ _ _ h => h) (Or.inl ⟨by rfl, ?_⟩) (by assumption) ?_; rotate_left 1; (focus (intro w hSw; (try dsimp only at hSw); go_simp <;> try (first | (with_reducible rfl) | (rw [if_neg (by omega)]) | (rw [if_pos (by omega)])))); try simp only [Act.put, List.setIfInBounds_toArray, List.set_cons_zero, List.set_cons_succ]); (refine wpAnyH_take (i := 2) (oi := ⟨some 11, _, _, _, _, _⟩) (v := ?_) rfl (by kernel_rfl) (by kernel_rfl) (by kernel_rfl) (fun _ _ _ h => h) (Or.inl ⟨by rfl, ?_⟩) (by assumption) ?_; rotate_left 1; (focus (intro w hSw; (try dsimp only at hSw); go_simp <;> try (first | (with_reducible rfl) | (rw [if_neg (by omega)]) | (rw [if_pos (by omega)])))); try simp only [Act.put, List.setIfInBounds_toArray, List.set_cons_zero, List.set_cons_succ]))
  (refine wpAnyH_ready (rs := [3]) (by kernel_rfl) (by simp) ?_; refine AllReadyH.cons rfl (fun K hK => ?_) AllReadyH.nil; go_simp)
  refine (highest_t _ _ _ ls _ _ _ _ hn0 ((HA.out.below (by repeat (first | assumption | exact Below.refl _ _ | (refine Below.setCell ?_ (by first | omega | (simp; done) | (simp; omega)) _) | apply below_drewN | apply Below.drew | (refine Below.alloc ?_ (by first | omega | (simp; done) | (simp; omega)) _)))).mono (by first | omega | (simp; done) | (simp; omega))) i0 z HZ.out).mono ?_
  rintro e1 W1 ⟨rfl, b1⟩
  have s1 : w.heap.size < W1.heap.size := by have := b1.size; (try simp at this); omega
  have z1_0 : W1.cell? ⟨w.heap.size, 0, none⟩ = some (.slice A0 n0 k0) := (b1.cell (p := ⟨w.heap.size, 0, none⟩) (by first | omega | (simp; done) | (simp; omega))).trans hHeld.1
  have z1_1 : W1.cell? ⟨w.heap.size, 1, none⟩ = some (.slice A1 n1 k1) := (b1.cell (p := ⟨w.heap.size, 1, none⟩) (by first | omega | (simp; done) | (simp; omega))).trans hHeld.2
  have d1 : Below w.heap.size w W1 := (by repeat (first | assumption | exact Below.refl _ _ | (refine Below.trans ?_ (b1.mono (by first | omega | (simp; done) | (simp; omega)))) | (refine Below.setCell ?_ (by first | omega | (simp; done) | (simp; omega)) _) | apply below_drewN | apply Below.drew | (refine Below.alloc ?_ (by first | omega | (simp; done) | (simp; omega)) _)))
  clear hHeld
  (refine hK.out _ _ ?_ (fun hHeld => ?_))
  · exact ⟨z1_0, z1_1⟩
  clear hK K
  (refine wpAnyH_ready (rs := [4]) (by kernel_rfl) (by simp) ?_; refine AllReadyH.cons rfl (fun K hK => ?_) AllReadyH.nil; go_simp)
  refine (volumeAt_t _ n0 k0 ls _ n1 k1 vs _ _ hn0 ((HA.out.below (by repeat (first | assumption | exact Below.refl _ _ | (refine Below.trans ?_ (d1.mono (by first | omega | (simp; done) | (simp; omega)))) | (refine Below.setCell ?_ (by first | omega | (simp; done) | (simp; omega)) _) | apply below_drewN | apply Below.drew | (refine Below.alloc ?_ (by first | omega | (simp; done) | (simp; omega)) _)))).mono (by first | omega | (simp; done) | (simp; omega))) ((HV.out.below (by repeat (first | assumption | exact Below.refl _ _ | (refine Below.trans ?_ (d1.mono (by first | omega | (simp; done) | (simp; omega)))) | (refine Below.setCell ?_ (by first | omega | (simp; done) | (simp; omega)) _) | apply below_drewN | apply Below.drew | (refine Below.alloc ?_ (by first | omega | (simp; done) | (simp; omega)) _)))).mono (by first | omega | (simp; done) | (simp; omega))) HC.out HY.out).mono ?_
  rintro e2 W2 ⟨rfl, b2⟩
  rw [← HU.out]
  have s2 : w.heap.size < W2.heap.size := by have := b2.size; (try simp at this); omega
  have z2_0 : W2.cell? ⟨w.heap.size, 0, none⟩ = some (.slice A0 n0 k0) := (b2.cell (p := ⟨w.heap.size, 0, none⟩) (by first | omega | (simp; done) | (simp; omega))).trans hHeld.1
  have z2_1 : W2.cell? ⟨w.heap.size, 1, none⟩ = some (.slice A1 n1 k1) := (b2.cell (p := ⟨w.heap.size, 1, none⟩) (by first | omega | (simp; done) | (simp; omega))).trans hHeld.2
  have d2 : Below w.heap.size w W2 := (by repeat (first | assumption | exact Below.refl _ _ | (refine Below.trans ?_ (b2.mono (by first | omega | (simp; done) | (simp; omega)))) | (refine Below.trans ?_ (d1.mono (by first | omega | (simp; done) | (simp; omega)))) | (refine Below.setCell ?_ (by first | omega | (simp; done) | (simp; omega)) _) | apply below_drewN | apply Below.drew | (refine Below.alloc ?_ (by first | omega | (simp; done) | (simp; omega)) _)))
  clear hHeld
  (refine hK.out _ _ ?_ (fun hHeld => ?_))
  · exact ⟨z2_0, z2_1⟩
  clear hK K
  ((refine wpAnyH_take (i := 5) (oi := ⟨some 14, _, _, _, _, _⟩) (v := ?_) rfl (by kernel_rfl) (by kernel_rfl) (by kernel_rfl) (fun _ _ _ h => h) (Or.inl ⟨by rfl, ?_⟩) (by assumption) ?_; rotate_left 1; (focus (intro w hSw; (try dsimp only at hSw); go_simp <;> try (first | (with_reducible rfl) | (rw [if_neg (by omega)]) | (rw [if_pos (by omega)])))); try simp only [Act.put, List.setIfInBounds_toArray, List.set_cons_zero, List.set_cons_succ]))
  refine wpAnyH_done (by kernel_rfl) ?_ _
  have g1 := (HS.out.below d2).v1
  go_wp2_with fail
  go_quiet (fail)
  go_wp2
  go_ret2
  exact ⟨rfl, (by repeat (first | assumption | exact Below.refl _ _ | (refine Below.trans ?_ (d2.mono (by first | omega | (simp; done) | (simp; omega)))) | (refine Below.setCell ?_ (by first | omega | (simp; done) | (simp; omega)) _) | apply below_drewN | apply Below.drew | (refine Below.alloc ?_ (by first | omega | (simp; done) | (simp; omega)) _)))⟩

set_option maxRecDepth 100000 in
set_option maxHeartbeats 3200000 in
theorem levelAt_t (A0 : Option Addr) (n0 k0 : Nat) (ls : List Int) (A1 : Option Addr) (n1 k1 : Nat) (vs : List Int) (v : Int) (w : World) (a0 a1 : Addr) (hs : Sent w w.heap.size a0 a1) (hn0 : n0 ≤ 1048576) (hn1 : n1 ≤ 1048576) (ha : Rd w w.heap.size A0 n0 ls) (hv : Rd w w.heap.size A1 n1 vs) (hc : CurveOk ls vs) (h0 : ¬ v < 0) (h : v ≤ vs.getD (vs.length - 1) 0) :
    Calls Tryd.prog 30 #[.agg #[.slice A0 n0 k0, .slice A1 n1 k1], .int .i64 v] w fun e w' => e = .returned (.tuple #[.int .i64 (lvAt ls vs v), .nilIface]) ∧ Below w.heap.size w w' := by
  have hl0 := ha.1
  have hl1 := hv.1
  have HA := Lib.hid ha
  have HV := Lib.hid hv
  have HC := Lib.hid hc
  have HS := Lib.hid hs
  have h12 := hc.1
  have i0 : 0 < n0 := by omega
  obtain ⟨z, hz⟩ : ∃ z, z = ls.getD (n0 - 1) 0 := ⟨_, rfl⟩
  have HZ := Lib.hid hz
  have hz2 : z = ls.getD (ls.length - 1) 0 := by rw [hl0]; exact hz
  have HY := Lib.hid (show onC ls z by rw [hz2]; exact onC_last hc)
  obtain ⟨u, hu⟩ : ∃ u, u = vAt ls vs z := ⟨_, rfl⟩
  have HU := Lib.hid hu
  have huv : u = vs.getD (vs.length - 1) 0 := by rw [hu, hz2]; exact vAt_last hc
  have hgt : ¬ v > u := by omega
  obtain ⟨x, hx⟩ : ∃ x, x = ls.getD 0 0 := ⟨_, rfl⟩
  have HX := Lib.hid hx
  have HZ2 := Lib.hid hz2
  have HVL := Lib.hid h
  clear ha hv hc hs hz hz2 hu huv h hx
  go_enter Tryd.func30, Tryd.ntmps30
  go_wp2_with fail
  refine wp_region_held_drew (S := fun w' => w'.cell? ⟨w.heap.size, 0, none⟩ = some (.slice A0 n0 k0) ∧ w'.cell? ⟨w.heap.size, 1, none⟩ = some (.slice A1 n1 k1)) (by kernel_rfl) ⟨by simp, by simp⟩ (fun hHeld => ?_)
  ((refine wpAnyH_take (i := 0) (oi := ⟨some 9, _, _, _, _, _⟩) (v := ?_) rfl (by kernel_rfl) (by kernel_rfl) (by kernel_rfl) (fun _ _ _ h => h) (Or.inl ⟨by rfl, ?_⟩) (by assumption) ?_; rotate_left 1; (focus (intro w hSw; (try dsimp only at hSw); go_simp <;> try (first | (with_reducible rfl) | (rw [if_neg (by omega)]) | (rw [if_pos (by omega)])))); try simp only [Act.put, List.setIfInBounds_toArray, List.set_cons_zero, List.set_cons_succ]); (refine wpAnyH_take (i := 1) (oi := ⟨some 10, _, _, _, _, _⟩) (v := ?_) rfl (by kernel_rfl) (by kernel_rfl) (by kernel_rfl) (fun _ _ _ h => h) (Or.inl ⟨by rfl, ?_⟩) (by assumption) ?_; rotate_left 1; (focus (intro w hSw; (try dsimp only at hSw); go_simp <;> try (first | (with_reducible rfl) | (rw [if_neg (by omega)]) | (rw [if_pos (by omega)])))); try simp only [Act.put, List.setIfInBounds_toArray, List.set_cons_zero, List.set_cons_succ]); (refine wpAnyH_take (i := 2) (oi := ⟨some 11, _, _, _, _, _⟩) (v := ?_) rfl (by kernel_rfl) (by kernel_rfl) (by kernel_rfl) (fun _ _ _ h => h) (Or.inl ⟨by rfl, ?_⟩) (by assumption) ?_; rotate_left 1; (focus (intro w hSw; (try dsimp only at hSw); go_simp <;> try (first | (with_reducible rfl) | (rw [if_neg (by omega)]) | (rw [if_pos (by omega)])))); try simp only [Act.put, List.setIfInBounds_toArray, List.set_cons_zero, List.set_cons_succ]))
  (refine wpAnyH_ready (rs := [3]) (by kernel_rfl) (by simp) ?_; refine AllReadyH.cons rfl (fun K hK => ?_) AllReadyH.nil; go_simp)
  refine (highest_t _ _ _ ls _ _ _ _ hn0 ((HA.out.below (by repeat (first | assumption | exact Below.refl _ _ | (refine Below.setCell ?_ (by first | omega | (simp; done) | (simp; omega)) _) | apply below_drewN | apply Below.drew | (refine Below.alloc ?_ (by first | omega | (simp; done) | (simp; omega)) _)))).mono (by first | omega | (simp; done) | (simp; omega))) i0 z HZ.out).mono ?_
  rintro e1 W1 ⟨rfl, b1⟩
  have s1 : w.heap.size < W1.heap.size := by have := b1.size; (try simp at this); omega
  have z1_0 : W1.cell? ⟨w.heap.size, 0, none⟩ = some (.slice A0 n0 k0) := (b1.cell (p := ⟨w.heap.size, 0, none⟩) (by first | omega | (simp; done) | (simp; omega))).trans hHeld.1
  have z1_1 : W1.cell? ⟨w.heap.size, 1, none⟩ = some (.slice A1 n1 k1) := (b1.cell (p := ⟨w.heap.size, 1, none⟩) (by first | omega | (simp; done) | (simp; omega))).trans hHeld.2
  have d1 : Below w.heap.size w W1 := (by repeat (first | assumption | exact Below.refl _ _ | (refine Below.trans ?_ (b1.mono (by first | omega | (simp; done) | (simp; omega)))) | (refine Below.setCell ?_ (by first | omega | (simp; done) | (simp; omega)) _) | apply below_drewN | apply Below.drew | (refine Below.alloc ?_ (by first | omega | (simp; done) | (simp; omega)) _)))
  clear hHeld
  (refine hK.out _ _ ?_ (fun hHeld => ?_))
  · exact ⟨z1_0, z1_1⟩
  clear hK K
  (refine wpAnyH_ready (rs := [4]) (by kernel_rfl) (by simp) ?_; refine AllReadyH.cons rfl (fun K hK => ?_) AllReadyH.nil; go_simp)
  refine (volumeAt_t _ n0 k0 ls _ n1 k1 vs _ _ hn0 ((HA.out.below (by repeat (first | assumption | exact Below.refl _ _ | (refine Below.trans ?_ (d1.mono (by first | omega | (simp; done) | (simp; omega)))) | (refine Below.setCell ?_ (by first | omega | (simp; done) | (simp; omega)) _) | apply below_drewN | apply Below.drew | (refine Below.alloc ?_ (by first | omega | (simp; done) | (simp; omega)) _)))).mono (by first | omega | (simp; done) | (simp; omega))) ((HV.out.below (by repeat (first | assumption | exact Below.refl _ _ | (refine Below.trans ?_ (d1.mono (by first | omega | (simp; done) | (simp; omega)))) | (refine Below.setCell ?_ (by first | omega | (simp; done) | (simp; omega)) _) | apply below_drewN | apply Below.drew | (refine Below.alloc ?_ (by first | omega | (simp; done) | (simp; omega)) _)))).mono (by first | omega | (simp; done) | (simp; omega))) HC.out HY.out).mono ?_
  rintro e2 W2 ⟨rfl, b2⟩
  rw [← HU.out]
  have s2 : w.heap.size < W2.heap.size := by have := b2.size; (try simp at this); omega
  have z2_0 : W2.cell? ⟨w.heap.size, 0, none⟩ = some (.slice A0 n0 k0) := (b2.cell (p := ⟨w.heap.size, 0, none⟩) (by first | omega | (simp; done) | (simp; omega))).trans hHeld.1
  have z2_1 : W2.cell? ⟨w.heap.size, 1, none⟩ = some (.slice A1 n1 k1) := (b2.cell (p := ⟨w.heap.size, 1, none⟩) (by first | omega | (simp; done) | (simp; omega))).trans hHeld.2
  have d2 : Below w.heap.size w W2 := (by repeat (first | assumption | exact Below.refl _ _ | (refine Below.trans ?_ (b2.mono (by first | omega | (simp; done) | (simp; omega)))) | (refine Below.trans ?_ (d1.mono (by first | omega | (simp; done) | (simp; omega)))) | (refine Below.setCell ?_ (by first | omega | (simp; done) | (simp; omega)) _) | apply below_drewN | apply Below.drew | (refine Below.alloc ?_ (by first | omega | (simp; done) | (simp; omega)) _)))
  clear hHeld
  (refine hK.out _ _ ?_ (fun hHeld => ?_))
  · exact ⟨z2_0, z2_1⟩
  clear hK K
  ((refine wpAnyH_take (i := 5) (oi := ⟨some 14, _, _, _, _, _⟩) (v := ?_) rfl (by kernel_rfl) (by kernel_rfl) (by kernel_rfl) (fun _ _ _ h => h) (Or.inl ⟨by rfl, ?_⟩) (by assumption) ?_; rotate_left 1; (focus (intro w hSw; (try dsimp only at hSw); go_simp <;> try (first | (with_reducible rfl) | (rw [if_neg (by omega)]) | (rw [if_pos (by omega)])))); try simp only [Act.put, List.setIfInBounds_toArray, List.set_cons_zero, List.set_cons_succ]))
  refine wpAnyH_done (by kernel_rfl) ?_ _
  go_wp2_with fail
  refine wp_region_held_drew (S := fun w' => w'.cell? ⟨w.heap.size, 0, none⟩ = some (.slice A0 n0 k0) ∧ w'.cell? ⟨w.heap.size, 1, none⟩ = some (.slice A1 n1 k1)) (by kernel_rfl) ⟨z2_0, z2_1⟩ (fun hHeld => ?_)
  ((refine wpAnyH_take (i := 0) (oi := ⟨some 16, _, _, _, _, _⟩) (v := ?_) rfl (by kernel_rfl) (by kernel_rfl) (by kernel_rfl) (fun _ _ _ h => h) (Or.inl ⟨by rfl, ?_⟩) (by assumption) ?_; rotate_left 1; (focus (intro w hSw; (try dsimp only at hSw); go_simp <;> try (first | (with_reducible rfl) | (rw [if_neg (by omega)]) | (rw [if_pos (by omega)])))); try simp only [Act.put, List.setIfInBounds_toArray, List.set_cons_zero, List.set_cons_succ]); (refine wpAnyH_take (i := 1) (oi := ⟨some 17, _, _, _, _, _⟩) (v := ?_) rfl (by kernel_rfl) (by kernel_rfl) (by kernel_rfl) (fun _ _ _ h => h) (Or.inl ⟨by rfl, ?_⟩) (by assumption) ?_; rotate_left 1; (focus (intro w hSw; (try dsimp only at hSw); go_simp <;> try (first | (with_reducible rfl) | (rw [if_neg (by omega)]) | (rw [if_pos (by omega)])))); try simp only [Act.put, List.setIfInBounds_toArray, List.set_cons_zero, List.set_cons_succ]); (refine wpAnyH_take (i := 2) (oi := ⟨some 18, _, _, _, _, _⟩) (v := ?_) rfl (by kernel_rfl) (by kernel_rfl) (by kernel_rfl) (fun _ _ _ h => h) (Or.inl ⟨by rfl, ?_⟩) (by assumption) ?_; rotate_left 1; (focus (intro w hSw; (try dsimp only at hSw); go_simp <;> try (first | (with_reducible rfl) | (rw [if_neg (by omega)]) | (rw [if_pos (by omega)])))); try simp only [Act.put, List.setIfInBounds_toArray, List.set_cons_zero, List.set_cons_succ]); (refine wpAnyH_take (i := 4) (oi := ⟨some 20, _, _, _, _, _⟩) (v := ?_) rfl (by kernel_rfl) (by kernel_rfl) (by kernel_rfl) (fun _ _ _ h => h) (Or.inl ⟨by rfl, ?_⟩) (by assumption) ?_; rotate_left 1; (focus (intro w hSw; (try dsimp only at hSw); go_simp <;> try (first | (with_reducible rfl) | (rw [if_neg (by omega)]) | (rw [if_pos (by omega)])))); try simp only [Act.put, List.setIfInBounds_toArray, List.set_cons_zero, List.set_cons_succ]); (refine wpAnyH_take (i := 6) (oi := ⟨some 22, _, _, _, _, _⟩) (v := ?_) rfl (by kernel_rfl) (by kernel_rfl) (by kernel_rfl) (fun _ _ _ h => h) (Or.inl ⟨by rfl, ?_⟩) (by assumption) ?_; rotate_left 1; (focus (intro w hSw; (try dsimp only at hSw); go_simp <;> try (first | (with_reducible rfl) | (rw [if_neg (by omega)]) | (rw [if_pos (by omega)])))); try simp only [Act.put, List.setIfInBounds_toArray, List.set_cons_zero, List.set_cons_succ]))
  (refine wpAnyH_ready (rs := [3]) (by kernel_rfl) (by simp) ?_; refine AllReadyH.cons rfl (fun K hK => ?_) AllReadyH.nil; go_simp)
  refine (lowest_t _ _ _ ls _ _ _ _ hn0 ((HA.out.below (by repeat (first | assumption | exact Below.refl _ _ | (refine Below.trans ?_ (d2.mono (by first | omega | (simp; done) | (simp; omega)))) | (refine Below.setCell ?_ (by first | omega | (simp; done) | (simp; omega)) _) | apply below_drewN | apply Below.drew | (refine Below.alloc ?_ (by first | omega | (simp; done) | (simp; omega)) _)))).mono (by first | omega | (simp; done) | (simp; omega))) i0 x HX.out).mono ?_
  rintro e3 W3 ⟨rfl, b3⟩
  have s3 : w.heap.size < W3.heap.size := by have := b3.size; (try simp at this); omega
  have z3_0 : W3.cell? ⟨w.heap.size, 0, none⟩ = some (.slice A0 n0 k0) := (b3.cell (p := ⟨w.heap.size, 0, none⟩) (by first | omega | (simp; done) | (simp; omega))).trans hHeld.1
  have z3_1 : W3.cell? ⟨w.heap.size, 1, none⟩ = some (.slice A1 n1 k1) := (b3.cell (p := ⟨w.heap.size, 1, none⟩) (by first | omega | (simp; done) | (simp; omega))).trans hHeld.2
  have d3 : Below w.heap.size w W3 := (by repeat (first | assumption | exact Below.refl _ _ | (refine Below.trans ?_ (b3.mono (by first | omega | (simp; done) | (simp; omega)))) | (refine Below.trans ?_ (d2.mono (by first | omega | (simp; done) | (simp; omega)))) | (refine Below.setCell ?_ (by first | omega | (simp; done) | (simp; omega)) _) | apply below_drewN | apply Below.drew | (refine Below.alloc ?_ (by first | omega | (simp; done) | (simp; omega)) _)))
  clear hHeld
  (refine hK.out _ _ ?_ (fun hHeld => ?_))
  · exact ⟨z3_0, z3_1⟩
  clear hK K
  (refine wpAnyH_ready (rs := [5]) (by kernel_rfl) (by simp) ?_; refine AllReadyH.cons rfl (fun K hK => ?_) AllReadyH.nil; go_simp)
  refine (highest_t _ _ _ ls _ _ _ _ hn0 ((HA.out.below (by repeat (first | assumption | exact Below.refl _ _ | (refine Below.trans ?_ (d3.mono (by first | omega | (simp; done) | (simp; omega)))) | (refine Below.setCell ?_ (by first | omega | (simp; done) | (simp; omega)) _) | apply below_drewN | apply Below.drew | (refine Below.alloc ?_ (by first | omega | (simp; done) | (simp; omega)) _)))).mono (by first | omega | (simp; done) | (simp; omega))) i0 z HZ.out).mono ?_
  rintro e4 W4 ⟨rfl, b4⟩
  have s4 : w.heap.size < W4.heap.size := by have := b4.size; (try simp at this); omega
  have z4_0 : W4.cell? ⟨w.heap.size, 0, none⟩ = some (.slice A0 n0 k0) := (b4.cell (p := ⟨w.heap.size, 0, none⟩) (by first | omega | (simp; done) | (simp; omega))).trans hHeld.1
  have z4_1 : W4.cell? ⟨w.heap.size, 1, none⟩ = some (.slice A1 n1 k1) := (b4.cell (p := ⟨w.heap.size, 1, none⟩) (by first | omega | (simp; done) | (simp; omega))).trans hHeld.2
  have d4 : Below w.heap.size w W4 := (by repeat (first | assumption | exact Below.refl _ _ | (refine Below.trans ?_ (b4.mono (by first | omega | (simp; done) | (simp; omega)))) | (refine Below.trans ?_ (d3.mono (by first | omega | (simp; done) | (simp; omega)))) | (refine Below.setCell ?_ (by first | omega | (simp; done) | (simp; omega)) _) | apply below_drewN | apply Below.drew | (refine Below.alloc ?_ (by first | omega | (simp; done) | (simp; omega)) _)))
  clear hHeld
  (refine hK.out _ _ ?_ (fun hHeld => ?_))
  · exact ⟨z4_0, z4_1⟩
  clear hK K
  (refine wpAnyH_ready (rs := [7]) (by kernel_rfl) (by simp) ?_; refine AllReadyH.cons rfl (fun K hK => ?_) AllReadyH.nil; go_simp)
  refine (leastC_t A0 n0 k0 ls A1 n1 k1 vs x z v (span ls + 1) _ hn0 ((HA.out.below (by repeat (first | assumption | exact Below.refl _ _ | (refine Below.trans ?_ (d4.mono (by first | omega | (simp; done) | (simp; omega)))) | (refine Below.setCell ?_ (by first | omega | (simp; done) | (simp; omega)) _) | apply below_drewN | apply Below.drew | (refine Below.alloc ?_ (by first | omega | (simp; done) | (simp; omega)) _)))).mono (by first | omega | (simp; done) | (simp; omega))) ((HV.out.below (by repeat (first | assumption | exact Below.refl _ _ | (refine Below.trans ?_ (d4.mono (by first | omega | (simp; done) | (simp; omega)))) | (refine Below.setCell ?_ (by first | omega | (simp; done) | (simp; omega)) _) | apply below_drewN | apply Below.drew | (refine Below.alloc ?_ (by first | omega | (simp; done) | (simp; omega)) _)))).mono (by first | omega | (simp; done) | (simp; omega))) HC.out HX.out HZ2.out rfl HVL.out).mono ?_
  rintro e5 W5 ⟨rfl, b5⟩
  have s5 : w.heap.size < W5.heap.size := by have := b5.size; (try simp at this); omega
  have z5_0 : W5.cell? ⟨w.heap.size, 0, none⟩ = some (.slice A0 n0 k0) := (b5.cell (p := ⟨w.heap.size, 0, none⟩) (by first | omega | (simp; done) | (simp; omega))).trans hHeld.1
  have z5_1 : W5.cell? ⟨w.heap.size, 1, none⟩ = some (.slice A1 n1 k1) := (b5.cell (p := ⟨w.heap.size, 1, none⟩) (by first | omega | (simp; done) | (simp; omega))).trans hHeld.2
  have d5 : Below w.heap.size w W5 := (by repeat (first | assumption | exact Below.refl _ _ | (refine Below.trans ?_ (b5.mono (by first | omega | (simp; done) | (simp; omega)))) | (refine Below.trans ?_ (d4.mono (by first | omega | (simp; done) | (simp; omega)))) | (refine Below.setCell ?_ (by first | omega | (simp; done) | (simp; omega)) _) | apply below_drewN | apply Below.drew | (refine Below.alloc ?_ (by first | omega | (simp; done) | (simp; omega)) _)))
  clear hHeld
  (refine hK.out _ _ ?_ (fun hHeld => ?_))
  · exact ⟨z5_0, z5_1⟩
  clear hK K
  ((refine wpAnyH_take (i := 8) (oi := ⟨some 4, _, _, _, _, _⟩) (v := ?_) rfl (by kernel_rfl) (by kernel_rfl) (by kernel_rfl) (fun _ _ _ h => h) (Or.inl ⟨by rfl, ?_⟩) (by assumption) ?_; rotate_left 1; (focus (intro w hSw; (try dsimp only at hSw); go_simp <;> try (first | (with_reducible rfl) | (rw [if_neg (by omega)]) | (rw [if_pos (by omega)])))); try simp only [Act.put, List.setIfInBounds_toArray, List.set_cons_zero, List.set_cons_succ]); (refine wpAnyH_take (i := 9) (oi := ⟨some 5, _, _, _, _, _⟩) (v := ?_) rfl (by kernel_rfl) (by kernel_rfl) (by kernel_rfl) (fun _ _ _ h => h) (Or.inl ⟨by rfl, ?_⟩) (by assumption) ?_; rotate_left 1; (focus (intro w hSw; (try dsimp only at hSw); go_simp <;> try (first | (with_reducible rfl) | (rw [if_neg (by omega)]) | (rw [if_pos (by omega)])))); try simp only [Act.put, List.setIfInBounds_toArray, List.set_cons_zero, List.set_cons_succ]))
  refine wpAnyH_done (by kernel_rfl) ?_ _
  go_wp2
  go_ret2
  exact ⟨rfl, (by repeat (first | assumption | exact Below.refl _ _ | (refine Below.trans ?_ (d5.mono (by first | omega | (simp; done) | (simp; omega)))) | (refine Below.setCell ?_ (by first | omega | (simp; done) | (simp; omega)) _) | apply below_drewN | apply Below.drew | (refine Below.alloc ?_ (by first | omega | (simp; done) | (simp; omega)) _)))⟩

end Go.Proofs.YtfpfmfhhcgafcabDoor
