/- The spells of a table below a level, of the model. -/
import Derived.Test.YthpnkkbinffmkaaDoorTideB
namespace Go.Proofs.YthpnkkbinffmkaaDoor
open Go.RowKit

theorem minT_t (a b q : Int) (w : World) (h : min a b = q) : Calls Tryd.prog 60 #[.int .i64 a, .int .i64 b] w fun e w' => e = .returned (.int .i64 q) ∧ w = w' := by
  subst h
  by_cases h : a < b
  · go_enter Tryd.func60, Tryd.ntmps60
    go_wp2
    go_ret
    exact ⟨ret_int (by omega), rfl⟩
  · go_enter Tryd.func60, Tryd.ntmps60
    go_wp2
    go_ret
    exact ⟨ret_int (by omega), rfl⟩

theorem maxT_t (a b q : Int) (w : World) (h : max a b = q) : Calls Tryd.prog 27 #[.int .i64 a, .int .i64 b] w fun e w' => e = .returned (.int .i64 q) ∧ w = w' := by
  subst h
  by_cases h : b < a
  · go_enter Tryd.func27, Tryd.ntmps27
    go_wp2
    go_ret
    exact ⟨ret_int (by omega), rfl⟩
  · go_enter Tryd.func27, Tryd.ntmps27
    go_wp2
    go_ret
    exact ⟨ret_int (by omega), rfl⟩

set_option maxHeartbeats 1600000 in
theorem part_up0 (x0 x1 x2 x3 y N : Int) (w : World) (hN : x2 - x0 = N) (h1 : 1 ≤ N ∧ N ≤ 100000) (hm : 0 ≤ x0 ∧ x2 ≤ 100000) (hl : -2000 ≤ x1 ∧ x1 ≤ 2000 ∧ -2000 ≤ x3 ∧ x3 ≤ 2000) (hy : -2000 ≤ y ∧ y ≤ 2000) (h : x1 < x3) (hk : y ≤ x1) :
    Calls Tryd.prog 48 #[.agg #[.int .i64 x0, .int .i64 x1], .agg #[.int .i64 x2, .int .i64 x3], .int .i64 y] w fun e w' => e = .returned (.tuple #[.int .i64 1, .int .i64 0]) ∧ Below w.heap.size w w' := by
  obtain ⟨h1, h2⟩ := h1
  obtain ⟨m1, m2⟩ := hm
  obtain ⟨l1, l2, l3, l4⟩ := hl
  obtain ⟨y1, y2⟩ := hy
  have d1 : decide (x1 < x3) = true := by simp; omega
  have d2 : decide (y ≤ x1) = true := by simpa using hk
  go_enter Tryd.func48, Tryd.ntmps48
  go_wp2
  go_ret2
  exact ⟨rfl, (by repeat (first | assumption | exact Below.refl _ _ | (refine Below.setCell ?_ (by first | omega | (simp; done) | (simp; omega)) _) | apply below_drewN | apply Below.drew | (refine Below.alloc ?_ (by first | omega | (simp; done) | (simp; omega)) _)))⟩

set_option maxHeartbeats 3200000 in
theorem part_up1 (x0 x1 x2 x3 y N q T : Int) (w : World) (hN : x2 - x0 = N) (h1 : 1 ≤ N ∧ N ≤ 100000) (hm : 0 ≤ x0 ∧ x2 ≤ 100000) (hl : -2000 ≤ x1 ∧ x1 ≤ 2000 ∧ -2000 ≤ x3 ∧ x3 ≤ 2000) (hy : -2000 ≤ y ∧ y ≤ 2000) (h : x1 < x3) (hk : ¬ y ≤ x1) (hp : -400000000 ≤ (y - x1) * N ∧ (y - x1) * N ≤ 400000000) (hq : ((y - x1) * N - 1) / (x3 - x1) = q) (hqb : -500000000 ≤ q ∧ q ≤ 500000000) (hT : min x2 (x0 + q) = T) :
    Calls Tryd.prog 48 #[.agg #[.int .i64 x0, .int .i64 x1], .agg #[.int .i64 x2, .int .i64 x3], .int .i64 y] w fun e w' => e = .returned (.tuple #[.int .i64 x0, .int .i64 T]) ∧ Below w.heap.size w w' := by
  obtain ⟨h1, h2⟩ := h1
  obtain ⟨m1, m2⟩ := hm
  obtain ⟨l1, l2, l3, l4⟩ := hl
  obtain ⟨y1, y2⟩ := hy
  have d1 : decide (x1 < x3) = true := by simp; omega
  obtain ⟨p1, p2⟩ := hp
  obtain ⟨q1, q2⟩ := hqb
  have d2 : decide (y ≤ x1) = false := by simpa using hk
  have f1 := IntWalk.wrap64_in ((y - x1) * N) (by omega)
  have f2 := IntWalk.wrap64_in (x2 - x0) (by omega)
  have f3 : IntKind.i64.wrap (x0 + q) = x0 + q := IntWalk.i64_in _ (by omega)
  have HQ := Lib.hid hq
  have HT := Lib.hid hT
  subst hN
  clear hq hT
  go_enter Tryd.func48, Tryd.ntmps48
  go_wp2_with (first | (go_at_call 53; refine (floorS_t _ _ q _ (by omega) (by omega) (by omega) (by omega) HQ.out).mono ?_; rintro e1 W1 ⟨rfl, rfl⟩))
  go_quiet ((go_at_call 60; exact Calls.quiet_of_same ((minT_t _ _ T _ HT.out).mono fun _ _ h => ⟨h.1, h.2.symm⟩)))
  go_wp2
  go_ret2
  exact ⟨rfl, (by repeat (first | assumption | exact Below.refl _ _ | (refine Below.setCell ?_ (by first | omega | (simp; done) | (simp; omega)) _) | apply below_drewN | apply Below.drew | (refine Below.alloc ?_ (by first | omega | (simp; done) | (simp; omega)) _)))⟩

set_option maxHeartbeats 1600000 in
theorem part_dn0 (x0 x1 x2 x3 y N : Int) (w : World) (hN : x2 - x0 = N) (h1 : 1 ≤ N ∧ N ≤ 100000) (hm : 0 ≤ x0 ∧ x2 ≤ 100000) (hl : -2000 ≤ x1 ∧ x1 ≤ 2000 ∧ -2000 ≤ x3 ∧ x3 ≤ 2000) (hy : -2000 ≤ y ∧ y ≤ 2000) (h : x3 < x1) (hk : y ≤ x3) :
    Calls Tryd.prog 48 #[.agg #[.int .i64 x0, .int .i64 x1], .agg #[.int .i64 x2, .int .i64 x3], .int .i64 y] w fun e w' => e = .returned (.tuple #[.int .i64 1, .int .i64 0]) ∧ Below w.heap.size w w' := by
  obtain ⟨h1, h2⟩ := h1
  obtain ⟨m1, m2⟩ := hm
  obtain ⟨l1, l2, l3, l4⟩ := hl
  obtain ⟨y1, y2⟩ := hy
  have d1 : decide (x1 < x3) = false := by simp; omega
  have d2 : decide (y ≤ x3) = true := by simpa using hk
  go_enter Tryd.func48, Tryd.ntmps48
  go_wp2
  go_ret2
  exact ⟨rfl, (by repeat (first | assumption | exact Below.refl _ _ | (refine Below.setCell ?_ (by first | omega | (simp; done) | (simp; omega)) _) | apply below_drewN | apply Below.drew | (refine Below.alloc ?_ (by first | omega | (simp; done) | (simp; omega)) _)))⟩

set_option maxHeartbeats 3200000 in
theorem part_dn1 (x0 x1 x2 x3 y N q T : Int) (w : World) (hN : x2 - x0 = N) (h1 : 1 ≤ N ∧ N ≤ 100000) (hm : 0 ≤ x0 ∧ x2 ≤ 100000) (hl : -2000 ≤ x1 ∧ x1 ≤ 2000 ∧ -2000 ≤ x3 ∧ x3 ≤ 2000) (hy : -2000 ≤ y ∧ y ≤ 2000) (h : x3 < x1) (hk : ¬ y ≤ x3) (hp : -400000000 ≤ (y - x3) * N ∧ (y - x3) * N ≤ 400000000) (hq : ((y - x3) * N - 1) / (x1 - x3) = q) (hqb : -500000000 ≤ q ∧ q ≤ 500000000) (hT : max x0 (x2 - q) = T) :
    Calls Tryd.prog 48 #[.agg #[.int .i64 x0, .int .i64 x1], .agg #[.int .i64 x2, .int .i64 x3], .int .i64 y] w fun e w' => e = .returned (.tuple #[.int .i64 T, .int .i64 x2]) ∧ Below w.heap.size w w' := by
  obtain ⟨h1, h2⟩ := h1
  obtain ⟨m1, m2⟩ := hm
  obtain ⟨l1, l2, l3, l4⟩ := hl
  obtain ⟨y1, y2⟩ := hy
  have d1 : decide (x1 < x3) = false := by simp; omega
  obtain ⟨p1, p2⟩ := hp
  obtain ⟨q1, q2⟩ := hqb
  have d2 : decide (y ≤ x3) = false := by simpa using hk
  have f1 := IntWalk.wrap64_in ((y - x3) * N) (by omega)
  have f2 := IntWalk.wrap64_in (x2 - x0) (by omega)
  have f3 : IntKind.i64.wrap (x2 - q) = x2 - q := IntWalk.i64_in _ (by omega)
  have HQ := Lib.hid hq
  have HT := Lib.hid hT
  subst hN
  clear hq hT
  go_enter Tryd.func48, Tryd.ntmps48
  go_wp2_with (first | (go_at_call 53; refine (floorS_t _ _ q _ (by omega) (by omega) (by omega) (by omega) HQ.out).mono ?_; rintro e1 W1 ⟨rfl, rfl⟩))
  go_quiet ((go_at_call 27; exact Calls.quiet_of_same ((maxT_t _ _ T _ HT.out).mono fun _ _ h => ⟨h.1, h.2.symm⟩)))
  go_wp2
  go_ret2
  exact ⟨rfl, (by repeat (first | assumption | exact Below.refl _ _ | (refine Below.setCell ?_ (by first | omega | (simp; done) | (simp; omega)) _) | apply below_drewN | apply Below.drew | (refine Below.alloc ?_ (by first | omega | (simp; done) | (simp; omega)) _)))⟩


/-- the part of the model, by its contracts -/
theorem l08Part_any (a b : RTide) (y : Int) (w : World) (hm : 0 ≤ a.f0 ∧ a.f0 < b.f0 ∧ b.f0 ≤ 100000) (hl : ¬ a.f1 = b.f1) (hla : -2000 ≤ a.f1 ∧ a.f1 ≤ 2000) (hlb : -2000 ≤ b.f1 ∧ b.f1 ≤ 2000) (hy : -2000 ≤ y ∧ y ≤ 2000) :
    (¬ (ptF a b y).f1 < (ptF a b y).f0 → Calls Tryd.prog 48 #[.agg #[.int .i64 a.f0, .int .i64 a.f1], .agg #[.int .i64 b.f0, .int .i64 b.f1], .int .i64 y] w fun e w' => e = .returned (.tuple #[.int .i64 (ptF a b y).f0, .int .i64 (ptF a b y).f1]) ∧ Below w.heap.size w w') ∧
    ((ptF a b y).f1 < (ptF a b y).f0 → Calls Tryd.prog 48 #[.agg #[.int .i64 a.f0, .int .i64 a.f1], .agg #[.int .i64 b.f0, .int .i64 b.f1], .int .i64 y] w fun e w' => e = .returned (.tuple #[.int .i64 1, .int .i64 0]) ∧ Below w.heap.size w w') := by
  obtain ⟨N, hN⟩ : ∃ N, N = b.f0 - a.f0 := ⟨_, rfl⟩
  have hN1 : 1 ≤ N ∧ N ≤ 100000 := by omega
  rcases Int.lt_or_gt_of_ne hl with c | c
  · rw [ptF_up c, ← hN]
    by_cases g : y ≤ a.f1
    · have hz := aw_none c (show 0 < N by omega) g
      exact ⟨fun h => absurd (show b.f0 - awF b.f1 y N (b.f1 - a.f1) < a.f0 by omega) h, fun _ => part_up0 a.f0 a.f1 b.f0 b.f1 y N w hN.symm hN1 ⟨hm.1, hm.2.2⟩ ⟨hla.1, hla.2, hlb.1, hlb.2⟩ hy c g⟩
    · have hz := aw_some c (show 0 < N by omega) (show a.f1 < y by omega)
      have hlow := aw_low (N := N) (y := y) c
      have hp := hn_bd hy.1 hy.2 hla.1 hla.2 hN1.1 hN1.2
      have hq := q_bd (a := (y - a.f1) * N - 1) (show 1 ≤ b.f1 - a.f1 by omega)
      refine ⟨fun _ => ?_, fun h => absurd h (by simp only; omega)⟩
      have hpos : 0 ≤ (y - a.f1) * N - 1 := by
        have : 1 * 1 ≤ (y - a.f1) * N := Int.mul_le_mul (by omega) hN1.1 (by omega) (by omega)
        omega
      have hqq := hq (by omega) (by omega)
      exact part_up1 a.f0 a.f1 b.f0 b.f1 y N _ _ w hN.symm hN1 ⟨hm.1, hm.2.2⟩ ⟨hla.1, hla.2, hlb.1, hlb.2⟩ hy c g hp rfl ⟨by omega, by omega⟩ (by simp only; omega)
  · have c' : b.f1 < a.f1 := c
    rw [ptF_dn c', ← hN]
    by_cases g : y ≤ b.f1
    · have hz := aw_none c' (show 0 < N by omega) g
      exact ⟨fun h => absurd (show b.f0 < a.f0 + awF a.f1 y N (a.f1 - b.f1) by omega) h, fun _ => part_dn0 a.f0 a.f1 b.f0 b.f1 y N w hN.symm hN1 ⟨hm.1, hm.2.2⟩ ⟨hla.1, hla.2, hlb.1, hlb.2⟩ hy c' g⟩
    · have hz := aw_some c' (show 0 < N by omega) (show b.f1 < y by omega)
      have hlow := aw_low (N := N) (y := y) c'
      have hp := hn_bd hy.1 hy.2 hlb.1 hlb.2 hN1.1 hN1.2
      have hq := q_bd (a := (y - b.f1) * N - 1) (show 1 ≤ a.f1 - b.f1 by omega)
      refine ⟨fun _ => ?_, fun h => absurd h (by simp only; omega)⟩
      have hpos : 0 ≤ (y - b.f1) * N - 1 := by
        have : 1 * 1 ≤ (y - b.f1) * N := Int.mul_le_mul (by omega) hN1.1 (by omega) (by omega)
        omega
      have hqq := hq (by omega) (by omega)
      exact part_dn1 a.f0 a.f1 b.f0 b.f1 y N _ _ w hN.symm hN1 ⟨hm.1, hm.2.2⟩ ⟨hla.1, hla.2, hlb.1, hlb.2⟩ hy c' g hp rfl ⟨by omega, by omega⟩ (by simp only; omega)

set_option maxRecDepth 100000 in
set_option maxHeartbeats 6400000 in
theorem l08Spells_t (A : Option Addr) (n c : Nat) (xs : List RTide) (y : Int) (w : World) (hn : n ≤ 1048576) (ha : Rd_Tide w w.heap.size A n xs) (h : TdOk n xs) (hy : lvok y) (N : Nat) (hN : N + 1 = n) :
    Calls Tryd.prog 26 #[.slice A n c, .int .i64 y] w fun e w' => ∃ B d, e = .returned (.slice B (spN xs y N).length d) ∧ Below w.heap.size w w' ∧ Wr_Spell w' w.heap.size B (spN xs y N).length (spN xs y N) := by
  have HA := Lib.hid ha
  have HV := Lib.hid h
  have HY := Lib.hid hy
  have h2 := h.2.1
  have h40 := h.2.2
  clear ha h hy
  go_enter Tryd.func26, Tryd.ntmps26
  go_wp2
  go_loopw [5, 6, 7, 8, 9, 10] (fun v i _ _ _ _ wr => ∃ k : Nat, k ≤ N ∧ i = .int .i64 (k : Int) ∧ Below w.heap.size w wr ∧ w.heap.size ≤ wr.heap.size ∧ wr.ownsRow w.heap.size 42 2 v (spN xs y k).length (csSpell (spN xs y k))) (fun _ i _ _ _ _ _ => N - (intOf i).toNat)
  case atStart => exact ⟨0, by omega, rfl, (by repeat (first | assumption | exact Below.refl _ _ | (refine Below.setCell ?_ (by first | omega | (simp; done) | (simp; omega)) _) | apply below_drewN | apply Below.drew | (refine Below.alloc ?_ (by first | omega | (simp; done) | (simp; omega)) _))), by simp, ownsR_made rfl (Nat.le_refl _)⟩
  case round =>
    obtain ⟨k, hk, rfl, hb, hz, hown⟩ := hrel
    have hsz := hb.size
    by_cases hlt : k < N
    · obtain ⟨ab, o, rfl, hbB, hc⟩ := (HA.out.below hb).ml (by omega)
      obtain ⟨p0, p1⟩ := hc k (by omega)
      obtain ⟨p, hp⟩ : ∃ p, p = k + 1 := ⟨_, rfl⟩
      obtain ⟨q0, q1⟩ := hc p (by omega)
      have hab : ab < wr.heap.size := by omega
      obtain ⟨u1, u2⟩ := HV.out.up (k := k) (by omega)
      have hSB := fun W => l08Part_any (xs.getD k zTide) (xs.getD (k + 1) zTide) y W ⟨(HV.out.m (k := k) (by omega)).1, u1, (HV.out.m (k := k + 1) (by omega)).2⟩ u2 (HV.out.l (k := k) (by omega)) (HV.out.l (k := k + 1) (by omega)) HY.out
      have HS := Lib.hid (show spN xs y (k + 1) = spStep (spN xs y k) (ptF (xs.getD k zTide) (xs.getD (k + 1) zTide) y) from rfl)
      have HTE := Lib.hid (fun (m : Nat) (hs : ¬ (ptF (xs.getD k zTide) (xs.getD (k + 1) zTide) y).f1 < (ptF (xs.getD k zTide) (xs.getD (k + 1) zTide) y).f0) (hl : (spN xs y k).length = m + 1) => sp_test HV.out (y := y) (show k + 1 < n by omega) hs hl)
      have hll := spN_len xs y k
      have HSI := Lib.hid (sp_in HV.out y k (by omega))
      have F := pt_facts (a := xs.getD k zTide) (b := xs.getD (k + 1) zTide) (y := y) u1 u2
      have r0 : (xs.getD k zTide).f0 = tM xs k := rfl
      have r1 : (xs.getD k zTide).f1 = tL xs k := rfl
      have r2 : (xs.getD (k + 1) zTide).f0 = tM xs (k + 1) := rfl
      have r3 : (xs.getD (k + 1) zTide).f1 = tL xs (k + 1) := rfl
      have hmk := HV.out.m (k := k) (by omega)
      have hmk1 := HV.out.m (k := k + 1) (by omega)
      obtain ⟨s, hs⟩ : ∃ s, s = ptF (xs.getD k zTide) (xs.getD (k + 1) zTide) y := ⟨_, rfl⟩
      rw [← hs] at hSB HS HTE F
      have hsb : ¬ s.f1 < s.f0 → 0 ≤ s.f0 ∧ s.f0 ≤ 100000 ∧ s.f1 ≤ 100000 := fun h => by have := F.lo h; omega
      rw [r0, r1, r2, r3] at hSB
      have x1 : (k : Int) + 1 = (p : Int) := by omega
      have g1 : decide ((k : Int) + 1 < (n : Int)) = true := by simp; omega
      have g2 : (p : Int) < (n : Int) := by omega
      have g3 : (k : Int) < (n : Int) := by omega
      have g4 : IntKind.i64.wrap ((k : Int) + 1) = (p : Int) := (IntWalk.i64_in _ (by omega)).trans (by omega)
      have g5 := IntWalk.i64_in (p : Int) (by omega)
      have HP := Lib.hid hp
      have HSB := Lib.hid hSB
      rw [← hp] at HSB
      clear hc hs hSB r0 r1 r2 r3 u1 u2 F hmk hmk1 hp
      generalize tM xs k = x0 at *
      generalize tL xs k = l0 at *
      generalize tM xs p = x2 at *
      generalize tL xs p = l2 at *
      generalize spN xs y k = L at *
      by_cases hno : s.f1 < s.f0
      · have HSK := Lib.hid (spStep_skip (L := L) hno)
        have HCA := Lib.hid (fun W => (HSB.out W).2 hno)
        clear HSB hno hsb
        go_wp2_with fail
        refine wp_region_held_drew (S := fun w' => w'.cell? ⟨ab, o + k * 2, none⟩ = some (.int .i64 x0) ∧ w'.cell? ⟨ab, o + k * 2 + 1, none⟩ = some (.int .i64 l0) ∧ w'.cell? ⟨ab, o + p * 2, none⟩ = some (.int .i64 x2) ∧ w'.cell? ⟨ab, o + p * 2 + 1, none⟩ = some (.int .i64 l2)) (by kernel_rfl) ⟨p0, p1, q0, q1⟩ (fun hHeld => ?_)
        ((refine wpAnyH_take (i := 0) (oi := ⟨some 20, _, _, _, _, _⟩) (v := ?_) rfl (by kernel_rfl) (by kernel_rfl) (by kernel_rfl) (fun _ _ _ h => h) (Or.inl ⟨by rfl, ?_⟩) (by assumption) ?_; rotate_left 1; (focus (intro w hSw; (try dsimp only at hSw); go_simp <;> try (first | (with_reducible rfl) | (rw [if_neg (by omega)])))); try simp only [Act.put, List.setIfInBounds_toArray, List.set_cons_zero, List.set_cons_succ]); (refine wpAnyH_take (i := 1) (oi := ⟨some 21, _, _, _, _, _⟩) (v := ?_) rfl (by kernel_rfl) (by kernel_rfl) (by kernel_rfl) (fun _ _ _ h => h) (Or.inl ⟨by rfl, ?_⟩) (by assumption) ?_; rotate_left 1; (focus (intro w hSw; (try dsimp only at hSw); go_simp <;> try (first | (with_reducible rfl) | (rw [if_neg (by omega)])))); try simp only [Act.put, List.setIfInBounds_toArray, List.set_cons_zero, List.set_cons_succ]); (refine wpAnyH_take (i := 2) (oi := ⟨some 22, _, _, _, _, _⟩) (v := ?_) rfl (by kernel_rfl) (by kernel_rfl) (by kernel_rfl) (fun _ _ _ h => h) (Or.inl ⟨by rfl, ?_⟩) (by assumption) ?_; rotate_left 1; (focus (intro w hSw; (try dsimp only at hSw); go_simp <;> try (first | (with_reducible rfl) | (rw [if_neg (by omega)])))); try simp only [Act.put, List.setIfInBounds_toArray, List.set_cons_zero, List.set_cons_succ]); (refine wpAnyH_take (i := 3) (oi := ⟨some 23, _, _, _, _, _⟩) (v := ?_) rfl (by kernel_rfl) (by kernel_rfl) (by kernel_rfl) (fun _ _ _ h => h) (Or.inl ⟨by rfl, ?_⟩) (by assumption) ?_; rotate_left 1; (focus (intro w hSw; (try dsimp only at hSw); go_simp <;> try (first | (with_reducible rfl) | (rw [if_neg (by omega)])))); try simp only [Act.put, List.setIfInBounds_toArray, List.set_cons_zero, List.set_cons_succ]); (refine wpAnyH_take (i := 4) (oi := ⟨some 24, _, _, _, _, _⟩) (v := ?_) rfl (by kernel_rfl) (by kernel_rfl) (by kernel_rfl) (fun _ _ _ h => h) (Or.inl ⟨by rfl, ?_⟩) (by assumption) ?_; rotate_left 1; (focus (intro w hSw; (try dsimp only at hSw); go_simp <;> try (first | (with_reducible rfl) | (rw [if_neg (by omega)])))); try simp only [Act.put, List.setIfInBounds_toArray, List.set_cons_zero, List.set_cons_succ]); (refine wpAnyH_take (i := 5) (oi := ⟨some 25, _, _, _, _, _⟩) (v := ?_) rfl (by kernel_rfl) (by kernel_rfl) (by kernel_rfl) (fun _ _ _ h => h) (Or.inl ⟨by rfl, ?_⟩) (by assumption) ?_; rotate_left 1; (focus (intro w hSw; (try dsimp only at hSw); go_simp <;> try (first | (with_reducible rfl) | (rw [if_neg (by omega)])))); try simp only [Act.put, List.setIfInBounds_toArray, List.set_cons_zero, List.set_cons_succ]); (refine wpAnyH_take (i := 6) (oi := ⟨some 26, _, _, _, _, _⟩) (v := ?_) rfl (by kernel_rfl) (by kernel_rfl) (by kernel_rfl) (fun _ _ _ h => h) (Or.inl ⟨by rfl, ?_⟩) (by assumption) ?_; rotate_left 1; (focus (intro w hSw; (try dsimp only at hSw); go_simp <;> try (first | (with_reducible rfl) | (rw [if_neg (by omega)])))); try simp only [Act.put, List.setIfInBounds_toArray, List.set_cons_zero, List.set_cons_succ]); (refine wpAnyH_take (i := 7) (oi := ⟨some 27, _, _, _, _, _⟩) (v := ?_) rfl (by kernel_rfl) (by kernel_rfl) (by kernel_rfl) (fun _ _ _ h => h) (Or.inl ⟨by rfl, ?_⟩) (by assumption) ?_; rotate_left 1; (focus (intro w hSw; (try dsimp only at hSw); go_simp <;> try (first | (with_reducible rfl) | (rw [if_neg (by omega)])))); try simp only [Act.put, List.setIfInBounds_toArray, List.set_cons_zero, List.set_cons_succ]); (refine wpAnyH_take (i := 8) (oi := ⟨some 28, _, _, _, _, _⟩) (v := ?_) rfl (by kernel_rfl) (by kernel_rfl) (by kernel_rfl) (fun _ _ _ h => h) (Or.inl ⟨by rfl, ?_⟩) (by assumption) ?_; rotate_left 1; (focus (intro w hSw; (try dsimp only at hSw); go_simp <;> try (first | (with_reducible rfl) | (rw [if_neg (by omega)])))); try simp only [Act.put, List.setIfInBounds_toArray, List.set_cons_zero, List.set_cons_succ]); (refine wpAnyH_take (i := 9) (oi := ⟨some 29, _, _, _, _, _⟩) (v := ?_) rfl (by kernel_rfl) (by kernel_rfl) (by kernel_rfl) (fun _ _ _ h => h) (Or.inl ⟨by rfl, ?_⟩) (by assumption) ?_; rotate_left 1; (focus (intro w hSw; (try dsimp only at hSw); go_simp <;> try (first | (with_reducible rfl) | (rw [if_neg (by omega)])))); try simp only [Act.put, List.setIfInBounds_toArray, List.set_cons_zero, List.set_cons_succ]))
        refine wpAnyH_ready (rs := [10]) (by kernel_rfl) (by simp) ?_
        refine AllReadyH.cons (o := ⟨some 30, _, _, _, _, _⟩) rfl (fun K hK => ?_) AllReadyH.nil
        go_simp
        refine (HCA.out _).mono ?_
        rintro e4 W4 ⟨rfl, b4⟩
        have s4 : wr.heap.size ≤ W4.heap.size := b4.size
        have d4 : Below wr.heap.size wr W4 := below_drew' b4
        have hown4 := owns_below (owns_below hown (Below.refl wr.heap.size wr).drew) b4
        have z_0 := (d4.cell (p := ⟨ab, o + k * 2, none⟩) hab).trans p0
        have z_1 := (d4.cell (p := ⟨ab, o + k * 2 + 1, none⟩) hab).trans p1
        have z_2 := (d4.cell (p := ⟨ab, o + p * 2, none⟩) hab).trans q0
        have z_3 := (d4.cell (p := ⟨ab, o + p * 2 + 1, none⟩) hab).trans q1
        clear hHeld
        (refine hK.out _ _ ?_ (fun hHeld => ?_))
        · exact ⟨z_0, z_1, z_2, z_3⟩
        ((refine wpAnyH_take (i := 11) (oi := ⟨some 19, _, _, _, _, _⟩) (v := ?_) rfl (by kernel_rfl) (by kernel_rfl) (by kernel_rfl) (fun _ _ _ h => h) (Or.inl ⟨by rfl, ?_⟩) (by assumption) ?_; rotate_left 1; (focus (intro w hSw; (try dsimp only at hSw); go_simp <;> try (first | (with_reducible rfl) | (rw [if_neg (by omega)])))); try simp only [Act.put, List.setIfInBounds_toArray, List.set_cons_zero, List.set_cons_succ]); (refine wpAnyH_take (i := 12) (oi := ⟨some 31, _, _, _, _, _⟩) (v := ?_) rfl (by kernel_rfl) (by kernel_rfl) (by kernel_rfl) (fun _ _ _ h => h) (Or.inl ⟨by rfl, ?_⟩) (by assumption) ?_; rotate_left 1; (focus (intro w hSw; (try dsimp only at hSw); go_simp <;> try (first | (with_reducible rfl) | (rw [if_neg (by omega)])))); try simp only [Act.put, List.setIfInBounds_toArray, List.set_cons_zero, List.set_cons_succ]); (refine wpAnyH_take (i := 13) (oi := ⟨some 32, _, _, _, _, _⟩) (v := ?_) rfl (by kernel_rfl) (by kernel_rfl) (by kernel_rfl) (fun _ _ _ h => h) (Or.inl ⟨by rfl, ?_⟩) (by assumption) ?_; rotate_left 1; (focus (intro w hSw; (try dsimp only at hSw); go_simp <;> try (first | (with_reducible rfl) | (rw [if_neg (by omega)])))); try simp only [Act.put, List.setIfInBounds_toArray, List.set_cons_zero, List.set_cons_succ]); (refine wpAnyH_take (i := 14) (oi := ⟨some 7, _, _, _, _, _⟩) (v := ?_) rfl (by kernel_rfl) (by kernel_rfl) (by kernel_rfl) (fun _ _ _ h => h) (Or.inl ⟨by rfl, ?_⟩) (by assumption) ?_; rotate_left 1; (focus (intro w hSw; (try dsimp only at hSw); go_simp <;> try (first | (with_reducible rfl) | (rw [if_neg (by omega)])))); try simp only [Act.put, List.setIfInBounds_toArray, List.set_cons_zero, List.set_cons_succ]); (refine wpAnyH_take (i := 15) (oi := ⟨some 8, _, _, _, _, _⟩) (v := ?_) rfl (by kernel_rfl) (by kernel_rfl) (by kernel_rfl) (fun _ _ _ h => h) (Or.inl ⟨by rfl, ?_⟩) (by assumption) ?_; rotate_left 1; (focus (intro w hSw; (try dsimp only at hSw); go_simp <;> try (first | (with_reducible rfl) | (rw [if_neg (by omega)])))); try simp only [Act.put, List.setIfInBounds_toArray, List.set_cons_zero, List.set_cons_succ]))
        refine wpAnyH_done (by kernel_rfl) ?_ _
        go_wp2
        go_roundw
        case rel => exact ⟨k + 1, by omega, by first | go_num | (rw [← HP.out]), hb.trans (d4.mono hsz), by omega, by rw [HS.out, HSK.out]; exact hown4⟩
        case measure => have := HP.out; simp [intOf]; omega
      · have HCA := Lib.hid (fun W => (HSB.out W).1 hno)
        have HNO := Lib.hid hno
        obtain ⟨b1, b2, b3⟩ := hsb hno
        obtain ⟨s0, s1⟩ := s
        have hno2 : s0 ≤ s1 := by simp only at hno; omega
        have d9 : decide (s0 > s1) = false := by simp; omega
        clear HSB hno hsb
        simp only at HCA b1 b2 b3
        cases hl : L.length with
        | zero =>
          have HNEW := Lib.hid (show spStep L ⟨s0, s1⟩ = L ++ [⟨s0, s1⟩] by
            obtain rfl : L = [] := List.eq_nil_of_length_eq_zero hl
            exact spStep_nil HNO.out)
          have HL0 := Lib.hid hl
          rw [hl] at hown
          obtain ⟨A0, c0, rfl, _⟩ := own_wrSpell hown
          clear hl
          go_wp2_with fail
          refine wp_region_held_drew (S := fun w' => w'.cell? ⟨ab, o + k * 2, none⟩ = some (.int .i64 x0) ∧ w'.cell? ⟨ab, o + k * 2 + 1, none⟩ = some (.int .i64 l0) ∧ w'.cell? ⟨ab, o + p * 2, none⟩ = some (.int .i64 x2) ∧ w'.cell? ⟨ab, o + p * 2 + 1, none⟩ = some (.int .i64 l2)) (by kernel_rfl) ⟨p0, p1, q0, q1⟩ (fun hHeld => ?_)
          ((refine wpAnyH_take (i := 0) (oi := ⟨some 20, _, _, _, _, _⟩) (v := ?_) rfl (by kernel_rfl) (by kernel_rfl) (by kernel_rfl) (fun _ _ _ h => h) (Or.inl ⟨by rfl, ?_⟩) (by assumption) ?_; rotate_left 1; (focus (intro w hSw; (try dsimp only at hSw); go_simp <;> try (first | (with_reducible rfl) | (rw [if_neg (by omega)])))); try simp only [Act.put, List.setIfInBounds_toArray, List.set_cons_zero, List.set_cons_succ]); (refine wpAnyH_take (i := 1) (oi := ⟨some 21, _, _, _, _, _⟩) (v := ?_) rfl (by kernel_rfl) (by kernel_rfl) (by kernel_rfl) (fun _ _ _ h => h) (Or.inl ⟨by rfl, ?_⟩) (by assumption) ?_; rotate_left 1; (focus (intro w hSw; (try dsimp only at hSw); go_simp <;> try (first | (with_reducible rfl) | (rw [if_neg (by omega)])))); try simp only [Act.put, List.setIfInBounds_toArray, List.set_cons_zero, List.set_cons_succ]); (refine wpAnyH_take (i := 2) (oi := ⟨some 22, _, _, _, _, _⟩) (v := ?_) rfl (by kernel_rfl) (by kernel_rfl) (by kernel_rfl) (fun _ _ _ h => h) (Or.inl ⟨by rfl, ?_⟩) (by assumption) ?_; rotate_left 1; (focus (intro w hSw; (try dsimp only at hSw); go_simp <;> try (first | (with_reducible rfl) | (rw [if_neg (by omega)])))); try simp only [Act.put, List.setIfInBounds_toArray, List.set_cons_zero, List.set_cons_succ]); (refine wpAnyH_take (i := 3) (oi := ⟨some 23, _, _, _, _, _⟩) (v := ?_) rfl (by kernel_rfl) (by kernel_rfl) (by kernel_rfl) (fun _ _ _ h => h) (Or.inl ⟨by rfl, ?_⟩) (by assumption) ?_; rotate_left 1; (focus (intro w hSw; (try dsimp only at hSw); go_simp <;> try (first | (with_reducible rfl) | (rw [if_neg (by omega)])))); try simp only [Act.put, List.setIfInBounds_toArray, List.set_cons_zero, List.set_cons_succ]); (refine wpAnyH_take (i := 4) (oi := ⟨some 24, _, _, _, _, _⟩) (v := ?_) rfl (by kernel_rfl) (by kernel_rfl) (by kernel_rfl) (fun _ _ _ h => h) (Or.inl ⟨by rfl, ?_⟩) (by assumption) ?_; rotate_left 1; (focus (intro w hSw; (try dsimp only at hSw); go_simp <;> try (first | (with_reducible rfl) | (rw [if_neg (by omega)])))); try simp only [Act.put, List.setIfInBounds_toArray, List.set_cons_zero, List.set_cons_succ]); (refine wpAnyH_take (i := 5) (oi := ⟨some 25, _, _, _, _, _⟩) (v := ?_) rfl (by kernel_rfl) (by kernel_rfl) (by kernel_rfl) (fun _ _ _ h => h) (Or.inl ⟨by rfl, ?_⟩) (by assumption) ?_; rotate_left 1; (focus (intro w hSw; (try dsimp only at hSw); go_simp <;> try (first | (with_reducible rfl) | (rw [if_neg (by omega)])))); try simp only [Act.put, List.setIfInBounds_toArray, List.set_cons_zero, List.set_cons_succ]); (refine wpAnyH_take (i := 6) (oi := ⟨some 26, _, _, _, _, _⟩) (v := ?_) rfl (by kernel_rfl) (by kernel_rfl) (by kernel_rfl) (fun _ _ _ h => h) (Or.inl ⟨by rfl, ?_⟩) (by assumption) ?_; rotate_left 1; (focus (intro w hSw; (try dsimp only at hSw); go_simp <;> try (first | (with_reducible rfl) | (rw [if_neg (by omega)])))); try simp only [Act.put, List.setIfInBounds_toArray, List.set_cons_zero, List.set_cons_succ]); (refine wpAnyH_take (i := 7) (oi := ⟨some 27, _, _, _, _, _⟩) (v := ?_) rfl (by kernel_rfl) (by kernel_rfl) (by kernel_rfl) (fun _ _ _ h => h) (Or.inl ⟨by rfl, ?_⟩) (by assumption) ?_; rotate_left 1; (focus (intro w hSw; (try dsimp only at hSw); go_simp <;> try (first | (with_reducible rfl) | (rw [if_neg (by omega)])))); try simp only [Act.put, List.setIfInBounds_toArray, List.set_cons_zero, List.set_cons_succ]); (refine wpAnyH_take (i := 8) (oi := ⟨some 28, _, _, _, _, _⟩) (v := ?_) rfl (by kernel_rfl) (by kernel_rfl) (by kernel_rfl) (fun _ _ _ h => h) (Or.inl ⟨by rfl, ?_⟩) (by assumption) ?_; rotate_left 1; (focus (intro w hSw; (try dsimp only at hSw); go_simp <;> try (first | (with_reducible rfl) | (rw [if_neg (by omega)])))); try simp only [Act.put, List.setIfInBounds_toArray, List.set_cons_zero, List.set_cons_succ]); (refine wpAnyH_take (i := 9) (oi := ⟨some 29, _, _, _, _, _⟩) (v := ?_) rfl (by kernel_rfl) (by kernel_rfl) (by kernel_rfl) (fun _ _ _ h => h) (Or.inl ⟨by rfl, ?_⟩) (by assumption) ?_; rotate_left 1; (focus (intro w hSw; (try dsimp only at hSw); go_simp <;> try (first | (with_reducible rfl) | (rw [if_neg (by omega)])))); try simp only [Act.put, List.setIfInBounds_toArray, List.set_cons_zero, List.set_cons_succ]))
          refine wpAnyH_ready (rs := [10]) (by kernel_rfl) (by simp) ?_
          refine AllReadyH.cons (o := ⟨some 30, _, _, _, _, _⟩) rfl (fun K hK => ?_) AllReadyH.nil
          go_simp
          refine (HCA.out _).mono ?_
          rintro e4 W4 ⟨rfl, b4⟩
          have s4 : wr.heap.size ≤ W4.heap.size := b4.size
          have d4 : Below wr.heap.size wr W4 := below_drew' b4
          have hown4 := owns_below (owns_below hown (Below.refl wr.heap.size wr).drew) b4
          have z_0 := (d4.cell (p := ⟨ab, o + k * 2, none⟩) hab).trans p0
          have z_1 := (d4.cell (p := ⟨ab, o + k * 2 + 1, none⟩) hab).trans p1
          have z_2 := (d4.cell (p := ⟨ab, o + p * 2, none⟩) hab).trans q0
          have z_3 := (d4.cell (p := ⟨ab, o + p * 2 + 1, none⟩) hab).trans q1
          clear hHeld
          (refine hK.out _ _ ?_ (fun hHeld => ?_))
          · exact ⟨z_0, z_1, z_2, z_3⟩
          ((refine wpAnyH_take (i := 11) (oi := ⟨some 19, _, _, _, _, _⟩) (v := ?_) rfl (by kernel_rfl) (by kernel_rfl) (by kernel_rfl) (fun _ _ _ h => h) (Or.inl ⟨by rfl, ?_⟩) (by assumption) ?_; rotate_left 1; (focus (intro w hSw; (try dsimp only at hSw); go_simp <;> try (first | (with_reducible rfl) | (rw [if_neg (by omega)])))); try simp only [Act.put, List.setIfInBounds_toArray, List.set_cons_zero, List.set_cons_succ]); (refine wpAnyH_take (i := 12) (oi := ⟨some 31, _, _, _, _, _⟩) (v := ?_) rfl (by kernel_rfl) (by kernel_rfl) (by kernel_rfl) (fun _ _ _ h => h) (Or.inl ⟨by rfl, ?_⟩) (by assumption) ?_; rotate_left 1; (focus (intro w hSw; (try dsimp only at hSw); go_simp <;> try (first | (with_reducible rfl) | (rw [if_neg (by omega)])))); try simp only [Act.put, List.setIfInBounds_toArray, List.set_cons_zero, List.set_cons_succ]); (refine wpAnyH_take (i := 13) (oi := ⟨some 32, _, _, _, _, _⟩) (v := ?_) rfl (by kernel_rfl) (by kernel_rfl) (by kernel_rfl) (fun _ _ _ h => h) (Or.inl ⟨by rfl, ?_⟩) (by assumption) ?_; rotate_left 1; (focus (intro w hSw; (try dsimp only at hSw); go_simp <;> try (first | (with_reducible rfl) | (rw [if_neg (by omega)])))); try simp only [Act.put, List.setIfInBounds_toArray, List.set_cons_zero, List.set_cons_succ]); (refine wpAnyH_take (i := 14) (oi := ⟨some 7, _, _, _, _, _⟩) (v := ?_) rfl (by kernel_rfl) (by kernel_rfl) (by kernel_rfl) (fun _ _ _ h => h) (Or.inl ⟨by rfl, ?_⟩) (by assumption) ?_; rotate_left 1; (focus (intro w hSw; (try dsimp only at hSw); go_simp <;> try (first | (with_reducible rfl) | (rw [if_neg (by omega)])))); try simp only [Act.put, List.setIfInBounds_toArray, List.set_cons_zero, List.set_cons_succ]); (refine wpAnyH_take (i := 15) (oi := ⟨some 8, _, _, _, _, _⟩) (v := ?_) rfl (by kernel_rfl) (by kernel_rfl) (by kernel_rfl) (fun _ _ _ h => h) (Or.inl ⟨by rfl, ?_⟩) (by assumption) ?_; rotate_left 1; (focus (intro w hSw; (try dsimp only at hSw); go_simp <;> try (first | (with_reducible rfl) | (rw [if_neg (by omega)])))); try simp only [Act.put, List.setIfInBounds_toArray, List.set_cons_zero, List.set_cons_succ]))
          refine wpAnyH_done (by kernel_rfl) ?_ _
          go_wp2_with (at_builtin; refine wplApp1Spell rfl _ _ rfl _ _ (by first | rfl | (simp; done)) _ _ _ L s0 s1 rfl (by exact hown4) rfl (by omega) (by first | omega | (simp; omega)) ?_; intro v9 w9 hown9 hb9 hz9)
          go_roundw
          case rel => exact ⟨k + 1, by omega, by first | go_num | (rw [← HP.out]), hb.trans ((d4.mono hsz).trans hb9), by omega, by rw [HS.out, HNEW.out, List.length_append, HL0.out]; exact hown9⟩
          case measure => have := HP.out; simp [intOf]; omega
        | succ m =>
          have HL0 := Lib.hid hl
          rw [hl] at hown
          obtain ⟨g, cap, rfl, hg0, hgw, hcap⟩ := own_form' hown (by omega)
          obtain ⟨⟨t0, t1⟩, tf0, tf1⟩ := own_atSpell hown (k := m) (by omega)
          have gm : decide ((m : Int) + 1 > 0) = true := by first | (simp; done) | (simp; omega)
          have gm4 : m ≤ 100 := by omega
          have hz3 := HSI.out m (by omega)
          have HTE2 := HTE.out m HNO.out hl
          obtain ⟨z, hz2⟩ : ∃ z, z = L.getD m zSpell := ⟨_, rfl⟩
          rw [← hz2] at t0 t1 hz3 HTE2
          by_cases he : z.f1 = s0
          · have HGO := Lib.hid (spStep_go HNO.out hl (show (L.getD m zSpell).f1 = s0 by rw [← hz2]; exact he))
            rw [← hz2] at HGO
            have ee : decide (z.f1 + 1 ≥ s0) = true := decide_eq_true (HTE2.2 he)
            obtain ⟨z0, z1⟩ := z
            obtain ⟨v1, v2, v3⟩ := hz3
            simp only at t0 t1 HGO ee v1 v2 v3
            clear hl hz2 he HTE2
            go_wp2_with fail
            refine wp_region_held_drew (S := fun w' => w'.cell? ⟨ab, o + k * 2, none⟩ = some (.int .i64 x0) ∧ w'.cell? ⟨ab, o + k * 2 + 1, none⟩ = some (.int .i64 l0) ∧ w'.cell? ⟨ab, o + p * 2, none⟩ = some (.int .i64 x2) ∧ w'.cell? ⟨ab, o + p * 2 + 1, none⟩ = some (.int .i64 l2)) (by kernel_rfl) ⟨p0, p1, q0, q1⟩ (fun hHeld => ?_)
            ((refine wpAnyH_take (i := 0) (oi := ⟨some 20, _, _, _, _, _⟩) (v := ?_) rfl (by kernel_rfl) (by kernel_rfl) (by kernel_rfl) (fun _ _ _ h => h) (Or.inl ⟨by rfl, ?_⟩) (by assumption) ?_; rotate_left 1; (focus (intro w hSw; (try dsimp only at hSw); go_simp <;> try (first | (with_reducible rfl) | (rw [if_neg (by omega)])))); try simp only [Act.put, List.setIfInBounds_toArray, List.set_cons_zero, List.set_cons_succ]); (refine wpAnyH_take (i := 1) (oi := ⟨some 21, _, _, _, _, _⟩) (v := ?_) rfl (by kernel_rfl) (by kernel_rfl) (by kernel_rfl) (fun _ _ _ h => h) (Or.inl ⟨by rfl, ?_⟩) (by assumption) ?_; rotate_left 1; (focus (intro w hSw; (try dsimp only at hSw); go_simp <;> try (first | (with_reducible rfl) | (rw [if_neg (by omega)])))); try simp only [Act.put, List.setIfInBounds_toArray, List.set_cons_zero, List.set_cons_succ]); (refine wpAnyH_take (i := 2) (oi := ⟨some 22, _, _, _, _, _⟩) (v := ?_) rfl (by kernel_rfl) (by kernel_rfl) (by kernel_rfl) (fun _ _ _ h => h) (Or.inl ⟨by rfl, ?_⟩) (by assumption) ?_; rotate_left 1; (focus (intro w hSw; (try dsimp only at hSw); go_simp <;> try (first | (with_reducible rfl) | (rw [if_neg (by omega)])))); try simp only [Act.put, List.setIfInBounds_toArray, List.set_cons_zero, List.set_cons_succ]); (refine wpAnyH_take (i := 3) (oi := ⟨some 23, _, _, _, _, _⟩) (v := ?_) rfl (by kernel_rfl) (by kernel_rfl) (by kernel_rfl) (fun _ _ _ h => h) (Or.inl ⟨by rfl, ?_⟩) (by assumption) ?_; rotate_left 1; (focus (intro w hSw; (try dsimp only at hSw); go_simp <;> try (first | (with_reducible rfl) | (rw [if_neg (by omega)])))); try simp only [Act.put, List.setIfInBounds_toArray, List.set_cons_zero, List.set_cons_succ]); (refine wpAnyH_take (i := 4) (oi := ⟨some 24, _, _, _, _, _⟩) (v := ?_) rfl (by kernel_rfl) (by kernel_rfl) (by kernel_rfl) (fun _ _ _ h => h) (Or.inl ⟨by rfl, ?_⟩) (by assumption) ?_; rotate_left 1; (focus (intro w hSw; (try dsimp only at hSw); go_simp <;> try (first | (with_reducible rfl) | (rw [if_neg (by omega)])))); try simp only [Act.put, List.setIfInBounds_toArray, List.set_cons_zero, List.set_cons_succ]); (refine wpAnyH_take (i := 5) (oi := ⟨some 25, _, _, _, _, _⟩) (v := ?_) rfl (by kernel_rfl) (by kernel_rfl) (by kernel_rfl) (fun _ _ _ h => h) (Or.inl ⟨by rfl, ?_⟩) (by assumption) ?_; rotate_left 1; (focus (intro w hSw; (try dsimp only at hSw); go_simp <;> try (first | (with_reducible rfl) | (rw [if_neg (by omega)])))); try simp only [Act.put, List.setIfInBounds_toArray, List.set_cons_zero, List.set_cons_succ]); (refine wpAnyH_take (i := 6) (oi := ⟨some 26, _, _, _, _, _⟩) (v := ?_) rfl (by kernel_rfl) (by kernel_rfl) (by kernel_rfl) (fun _ _ _ h => h) (Or.inl ⟨by rfl, ?_⟩) (by assumption) ?_; rotate_left 1; (focus (intro w hSw; (try dsimp only at hSw); go_simp <;> try (first | (with_reducible rfl) | (rw [if_neg (by omega)])))); try simp only [Act.put, List.setIfInBounds_toArray, List.set_cons_zero, List.set_cons_succ]); (refine wpAnyH_take (i := 7) (oi := ⟨some 27, _, _, _, _, _⟩) (v := ?_) rfl (by kernel_rfl) (by kernel_rfl) (by kernel_rfl) (fun _ _ _ h => h) (Or.inl ⟨by rfl, ?_⟩) (by assumption) ?_; rotate_left 1; (focus (intro w hSw; (try dsimp only at hSw); go_simp <;> try (first | (with_reducible rfl) | (rw [if_neg (by omega)])))); try simp only [Act.put, List.setIfInBounds_toArray, List.set_cons_zero, List.set_cons_succ]); (refine wpAnyH_take (i := 8) (oi := ⟨some 28, _, _, _, _, _⟩) (v := ?_) rfl (by kernel_rfl) (by kernel_rfl) (by kernel_rfl) (fun _ _ _ h => h) (Or.inl ⟨by rfl, ?_⟩) (by assumption) ?_; rotate_left 1; (focus (intro w hSw; (try dsimp only at hSw); go_simp <;> try (first | (with_reducible rfl) | (rw [if_neg (by omega)])))); try simp only [Act.put, List.setIfInBounds_toArray, List.set_cons_zero, List.set_cons_succ]); (refine wpAnyH_take (i := 9) (oi := ⟨some 29, _, _, _, _, _⟩) (v := ?_) rfl (by kernel_rfl) (by kernel_rfl) (by kernel_rfl) (fun _ _ _ h => h) (Or.inl ⟨by rfl, ?_⟩) (by assumption) ?_; rotate_left 1; (focus (intro w hSw; (try dsimp only at hSw); go_simp <;> try (first | (with_reducible rfl) | (rw [if_neg (by omega)])))); try simp only [Act.put, List.setIfInBounds_toArray, List.set_cons_zero, List.set_cons_succ]))
            refine wpAnyH_ready (rs := [10]) (by kernel_rfl) (by simp) ?_
            refine AllReadyH.cons (o := ⟨some 30, _, _, _, _, _⟩) rfl (fun K hK => ?_) AllReadyH.nil
            go_simp
            refine (HCA.out _).mono ?_
            rintro e4 W4 ⟨rfl, b4⟩
            have s4 : wr.heap.size ≤ W4.heap.size := b4.size
            have d4 : Below wr.heap.size wr W4 := below_drew' b4
            have hown4 := owns_below (owns_below hown (Below.refl wr.heap.size wr).drew) b4
            have z_0 := (d4.cell (p := ⟨ab, o + k * 2, none⟩) hab).trans p0
            have z_1 := (d4.cell (p := ⟨ab, o + k * 2 + 1, none⟩) hab).trans p1
            have z_2 := (d4.cell (p := ⟨ab, o + p * 2, none⟩) hab).trans q0
            have z_3 := (d4.cell (p := ⟨ab, o + p * 2 + 1, none⟩) hab).trans q1
            clear hHeld
            (refine hK.out _ _ ?_ (fun hHeld => ?_))
            · exact ⟨z_0, z_1, z_2, z_3⟩
            ((refine wpAnyH_take (i := 11) (oi := ⟨some 19, _, _, _, _, _⟩) (v := ?_) rfl (by kernel_rfl) (by kernel_rfl) (by kernel_rfl) (fun _ _ _ h => h) (Or.inl ⟨by rfl, ?_⟩) (by assumption) ?_; rotate_left 1; (focus (intro w hSw; (try dsimp only at hSw); go_simp <;> try (first | (with_reducible rfl) | (rw [if_neg (by omega)])))); try simp only [Act.put, List.setIfInBounds_toArray, List.set_cons_zero, List.set_cons_succ]); (refine wpAnyH_take (i := 12) (oi := ⟨some 31, _, _, _, _, _⟩) (v := ?_) rfl (by kernel_rfl) (by kernel_rfl) (by kernel_rfl) (fun _ _ _ h => h) (Or.inl ⟨by rfl, ?_⟩) (by assumption) ?_; rotate_left 1; (focus (intro w hSw; (try dsimp only at hSw); go_simp <;> try (first | (with_reducible rfl) | (rw [if_neg (by omega)])))); try simp only [Act.put, List.setIfInBounds_toArray, List.set_cons_zero, List.set_cons_succ]); (refine wpAnyH_take (i := 13) (oi := ⟨some 32, _, _, _, _, _⟩) (v := ?_) rfl (by kernel_rfl) (by kernel_rfl) (by kernel_rfl) (fun _ _ _ h => h) (Or.inl ⟨by rfl, ?_⟩) (by assumption) ?_; rotate_left 1; (focus (intro w hSw; (try dsimp only at hSw); go_simp <;> try (first | (with_reducible rfl) | (rw [if_neg (by omega)])))); try simp only [Act.put, List.setIfInBounds_toArray, List.set_cons_zero, List.set_cons_succ]); (refine wpAnyH_take (i := 14) (oi := ⟨some 7, _, _, _, _, _⟩) (v := ?_) rfl (by kernel_rfl) (by kernel_rfl) (by kernel_rfl) (fun _ _ _ h => h) (Or.inl ⟨by rfl, ?_⟩) (by assumption) ?_; rotate_left 1; (focus (intro w hSw; (try dsimp only at hSw); go_simp <;> try (first | (with_reducible rfl) | (rw [if_neg (by omega)])))); try simp only [Act.put, List.setIfInBounds_toArray, List.set_cons_zero, List.set_cons_succ]); (refine wpAnyH_take (i := 15) (oi := ⟨some 8, _, _, _, _, _⟩) (v := ?_) rfl (by kernel_rfl) (by kernel_rfl) (by kernel_rfl) (fun _ _ _ h => h) (Or.inl ⟨by rfl, ?_⟩) (by assumption) ?_; rotate_left 1; (focus (intro w hSw; (try dsimp only at hSw); go_simp <;> try (first | (with_reducible rfl) | (rw [if_neg (by omega)])))); try simp only [Act.put, List.setIfInBounds_toArray, List.set_cons_zero, List.set_cons_succ]))
            refine wpAnyH_done (by kernel_rfl) ?_ _
            have c0 := (d4.cell (p := ⟨g, m * 2, none⟩) hgw).trans t0
            have c1 := (d4.cell (p := ⟨g, m * 2 + 1, none⟩) hgw).trans t1
            have cf0 := (d4.frozen (p := ⟨g, m * 2, none⟩) hgw).trans tf0
            have cf1 := (d4.frozen (p := ⟨g, m * 2 + 1, none⟩) hgw).trans tf1
            have hg4 : g < W4.heap.size := by omega
            have hne : ¬ g = W4.heap.size := by omega
            have hne' : ¬ W4.heap.size = g := by omega
            go_wp2
            go_roundw
            case rel => exact ⟨k + 1, by omega, by first | go_num | (rw [← HP.out]), by first | exact ((hb.trans (d4.mono hsz)).alloc (by omega) _ |>.setCell (by simp; omega) _ |>.setCell (by exact hg0) _ |>.setCell (by exact hg0) _) | (have dd := hb.trans (d4.mono hsz); have hg0' : w.heap.size ≤ g := hg0; have h44 : w.heap.size ≤ W4.heap.size := (by omega); exact (by repeat (first | assumption | exact Below.refl _ _ | (refine Below.setCell ?_ (by first | omega | (simp; done) | (simp; omega)) _) | apply below_drewN | apply Below.drew | (refine Below.alloc ?_ (by first | omega | (simp; done) | (simp; omega)) _)))), by simp [World.setCell]; omega, by
                rw [HS.out, HGO.out, List.length_set, HL0.out]
                first | exact (own_putSpell hown4 (k := m) (by rw [HL0.out]; omega) _ _).alloc _ | exact own_putSpell (hown4.alloc _) (k := m) (by rw [HL0.out]; omega) _ _ | exact own_putSpell hown4 (k := m) (by rw [HL0.out]; omega) _ _⟩
            case measure => have := HP.out; simp [intOf]; omega
          · have HNEW := Lib.hid (spStep_new HNO.out hl (show ¬ (L.getD m zSpell).f1 = s0 by rw [← hz2]; exact he))
            have ee : decide (z.f1 + 1 ≥ s0) = false := decide_eq_false (fun q => he (HTE2.1 q))
            obtain ⟨z0, z1⟩ := z
            obtain ⟨v1, v2, v3⟩ := hz3
            simp only at t0 t1 ee v1 v2 v3
            clear hl hz2 he HTE2
            go_wp2_with fail
            refine wp_region_held_drew (S := fun w' => w'.cell? ⟨ab, o + k * 2, none⟩ = some (.int .i64 x0) ∧ w'.cell? ⟨ab, o + k * 2 + 1, none⟩ = some (.int .i64 l0) ∧ w'.cell? ⟨ab, o + p * 2, none⟩ = some (.int .i64 x2) ∧ w'.cell? ⟨ab, o + p * 2 + 1, none⟩ = some (.int .i64 l2)) (by kernel_rfl) ⟨p0, p1, q0, q1⟩ (fun hHeld => ?_)
            ((refine wpAnyH_take (i := 0) (oi := ⟨some 20, _, _, _, _, _⟩) (v := ?_) rfl (by kernel_rfl) (by kernel_rfl) (by kernel_rfl) (fun _ _ _ h => h) (Or.inl ⟨by rfl, ?_⟩) (by assumption) ?_; rotate_left 1; (focus (intro w hSw; (try dsimp only at hSw); go_simp <;> try (first | (with_reducible rfl) | (rw [if_neg (by omega)])))); try simp only [Act.put, List.setIfInBounds_toArray, List.set_cons_zero, List.set_cons_succ]); (refine wpAnyH_take (i := 1) (oi := ⟨some 21, _, _, _, _, _⟩) (v := ?_) rfl (by kernel_rfl) (by kernel_rfl) (by kernel_rfl) (fun _ _ _ h => h) (Or.inl ⟨by rfl, ?_⟩) (by assumption) ?_; rotate_left 1; (focus (intro w hSw; (try dsimp only at hSw); go_simp <;> try (first | (with_reducible rfl) | (rw [if_neg (by omega)])))); try simp only [Act.put, List.setIfInBounds_toArray, List.set_cons_zero, List.set_cons_succ]); (refine wpAnyH_take (i := 2) (oi := ⟨some 22, _, _, _, _, _⟩) (v := ?_) rfl (by kernel_rfl) (by kernel_rfl) (by kernel_rfl) (fun _ _ _ h => h) (Or.inl ⟨by rfl, ?_⟩) (by assumption) ?_; rotate_left 1; (focus (intro w hSw; (try dsimp only at hSw); go_simp <;> try (first | (with_reducible rfl) | (rw [if_neg (by omega)])))); try simp only [Act.put, List.setIfInBounds_toArray, List.set_cons_zero, List.set_cons_succ]); (refine wpAnyH_take (i := 3) (oi := ⟨some 23, _, _, _, _, _⟩) (v := ?_) rfl (by kernel_rfl) (by kernel_rfl) (by kernel_rfl) (fun _ _ _ h => h) (Or.inl ⟨by rfl, ?_⟩) (by assumption) ?_; rotate_left 1; (focus (intro w hSw; (try dsimp only at hSw); go_simp <;> try (first | (with_reducible rfl) | (rw [if_neg (by omega)])))); try simp only [Act.put, List.setIfInBounds_toArray, List.set_cons_zero, List.set_cons_succ]); (refine wpAnyH_take (i := 4) (oi := ⟨some 24, _, _, _, _, _⟩) (v := ?_) rfl (by kernel_rfl) (by kernel_rfl) (by kernel_rfl) (fun _ _ _ h => h) (Or.inl ⟨by rfl, ?_⟩) (by assumption) ?_; rotate_left 1; (focus (intro w hSw; (try dsimp only at hSw); go_simp <;> try (first | (with_reducible rfl) | (rw [if_neg (by omega)])))); try simp only [Act.put, List.setIfInBounds_toArray, List.set_cons_zero, List.set_cons_succ]); (refine wpAnyH_take (i := 5) (oi := ⟨some 25, _, _, _, _, _⟩) (v := ?_) rfl (by kernel_rfl) (by kernel_rfl) (by kernel_rfl) (fun _ _ _ h => h) (Or.inl ⟨by rfl, ?_⟩) (by assumption) ?_; rotate_left 1; (focus (intro w hSw; (try dsimp only at hSw); go_simp <;> try (first | (with_reducible rfl) | (rw [if_neg (by omega)])))); try simp only [Act.put, List.setIfInBounds_toArray, List.set_cons_zero, List.set_cons_succ]); (refine wpAnyH_take (i := 6) (oi := ⟨some 26, _, _, _, _, _⟩) (v := ?_) rfl (by kernel_rfl) (by kernel_rfl) (by kernel_rfl) (fun _ _ _ h => h) (Or.inl ⟨by rfl, ?_⟩) (by assumption) ?_; rotate_left 1; (focus (intro w hSw; (try dsimp only at hSw); go_simp <;> try (first | (with_reducible rfl) | (rw [if_neg (by omega)])))); try simp only [Act.put, List.setIfInBounds_toArray, List.set_cons_zero, List.set_cons_succ]); (refine wpAnyH_take (i := 7) (oi := ⟨some 27, _, _, _, _, _⟩) (v := ?_) rfl (by kernel_rfl) (by kernel_rfl) (by kernel_rfl) (fun _ _ _ h => h) (Or.inl ⟨by rfl, ?_⟩) (by assumption) ?_; rotate_left 1; (focus (intro w hSw; (try dsimp only at hSw); go_simp <;> try (first | (with_reducible rfl) | (rw [if_neg (by omega)])))); try simp only [Act.put, List.setIfInBounds_toArray, List.set_cons_zero, List.set_cons_succ]); (refine wpAnyH_take (i := 8) (oi := ⟨some 28, _, _, _, _, _⟩) (v := ?_) rfl (by kernel_rfl) (by kernel_rfl) (by kernel_rfl) (fun _ _ _ h => h) (Or.inl ⟨by rfl, ?_⟩) (by assumption) ?_; rotate_left 1; (focus (intro w hSw; (try dsimp only at hSw); go_simp <;> try (first | (with_reducible rfl) | (rw [if_neg (by omega)])))); try simp only [Act.put, List.setIfInBounds_toArray, List.set_cons_zero, List.set_cons_succ]); (refine wpAnyH_take (i := 9) (oi := ⟨some 29, _, _, _, _, _⟩) (v := ?_) rfl (by kernel_rfl) (by kernel_rfl) (by kernel_rfl) (fun _ _ _ h => h) (Or.inl ⟨by rfl, ?_⟩) (by assumption) ?_; rotate_left 1; (focus (intro w hSw; (try dsimp only at hSw); go_simp <;> try (first | (with_reducible rfl) | (rw [if_neg (by omega)])))); try simp only [Act.put, List.setIfInBounds_toArray, List.set_cons_zero, List.set_cons_succ]))
            refine wpAnyH_ready (rs := [10]) (by kernel_rfl) (by simp) ?_
            refine AllReadyH.cons (o := ⟨some 30, _, _, _, _, _⟩) rfl (fun K hK => ?_) AllReadyH.nil
            go_simp
            refine (HCA.out _).mono ?_
            rintro e4 W4 ⟨rfl, b4⟩
            have s4 : wr.heap.size ≤ W4.heap.size := b4.size
            have d4 : Below wr.heap.size wr W4 := below_drew' b4
            have hown4 := owns_below (owns_below hown (Below.refl wr.heap.size wr).drew) b4
            have z_0 := (d4.cell (p := ⟨ab, o + k * 2, none⟩) hab).trans p0
            have z_1 := (d4.cell (p := ⟨ab, o + k * 2 + 1, none⟩) hab).trans p1
            have z_2 := (d4.cell (p := ⟨ab, o + p * 2, none⟩) hab).trans q0
            have z_3 := (d4.cell (p := ⟨ab, o + p * 2 + 1, none⟩) hab).trans q1
            clear hHeld
            (refine hK.out _ _ ?_ (fun hHeld => ?_))
            · exact ⟨z_0, z_1, z_2, z_3⟩
            ((refine wpAnyH_take (i := 11) (oi := ⟨some 19, _, _, _, _, _⟩) (v := ?_) rfl (by kernel_rfl) (by kernel_rfl) (by kernel_rfl) (fun _ _ _ h => h) (Or.inl ⟨by rfl, ?_⟩) (by assumption) ?_; rotate_left 1; (focus (intro w hSw; (try dsimp only at hSw); go_simp <;> try (first | (with_reducible rfl) | (rw [if_neg (by omega)])))); try simp only [Act.put, List.setIfInBounds_toArray, List.set_cons_zero, List.set_cons_succ]); (refine wpAnyH_take (i := 12) (oi := ⟨some 31, _, _, _, _, _⟩) (v := ?_) rfl (by kernel_rfl) (by kernel_rfl) (by kernel_rfl) (fun _ _ _ h => h) (Or.inl ⟨by rfl, ?_⟩) (by assumption) ?_; rotate_left 1; (focus (intro w hSw; (try dsimp only at hSw); go_simp <;> try (first | (with_reducible rfl) | (rw [if_neg (by omega)])))); try simp only [Act.put, List.setIfInBounds_toArray, List.set_cons_zero, List.set_cons_succ]); (refine wpAnyH_take (i := 13) (oi := ⟨some 32, _, _, _, _, _⟩) (v := ?_) rfl (by kernel_rfl) (by kernel_rfl) (by kernel_rfl) (fun _ _ _ h => h) (Or.inl ⟨by rfl, ?_⟩) (by assumption) ?_; rotate_left 1; (focus (intro w hSw; (try dsimp only at hSw); go_simp <;> try (first | (with_reducible rfl) | (rw [if_neg (by omega)])))); try simp only [Act.put, List.setIfInBounds_toArray, List.set_cons_zero, List.set_cons_succ]); (refine wpAnyH_take (i := 14) (oi := ⟨some 7, _, _, _, _, _⟩) (v := ?_) rfl (by kernel_rfl) (by kernel_rfl) (by kernel_rfl) (fun _ _ _ h => h) (Or.inl ⟨by rfl, ?_⟩) (by assumption) ?_; rotate_left 1; (focus (intro w hSw; (try dsimp only at hSw); go_simp <;> try (first | (with_reducible rfl) | (rw [if_neg (by omega)])))); try simp only [Act.put, List.setIfInBounds_toArray, List.set_cons_zero, List.set_cons_succ]); (refine wpAnyH_take (i := 15) (oi := ⟨some 8, _, _, _, _, _⟩) (v := ?_) rfl (by kernel_rfl) (by kernel_rfl) (by kernel_rfl) (fun _ _ _ h => h) (Or.inl ⟨by rfl, ?_⟩) (by assumption) ?_; rotate_left 1; (focus (intro w hSw; (try dsimp only at hSw); go_simp <;> try (first | (with_reducible rfl) | (rw [if_neg (by omega)])))); try simp only [Act.put, List.setIfInBounds_toArray, List.set_cons_zero, List.set_cons_succ]))
            refine wpAnyH_done (by kernel_rfl) ?_ _
            have c1 := (d4.cell (p := ⟨g, m * 2 + 1, none⟩) hgw).trans t1
            go_wp2_with (at_builtin; refine wplApp1Spell rfl _ _ rfl _ _ (by first | rfl | (simp; done)) _ _ _ L s0 s1 rfl (by exact hown4) rfl (by omega) (by first | omega | (simp; omega)) ?_; intro v9 w9 hown9 hb9 hz9)
            go_roundw
            case rel => exact ⟨k + 1, by omega, by first | go_num | (rw [← HP.out]), hb.trans ((d4.mono hsz).trans hb9), by omega, by rw [HS.out, HNEW.out, List.length_append, HL0.out]; exact hown9⟩
            case measure => have := HP.out; simp [intOf]; omega
    · obtain rfl : k = N := by omega
      obtain ⟨B, d, rfl, hw⟩ := own_wrSpell hown
      have g1 : decide ((k : Int) + 1 < (n : Int)) = false := by simp; omega
      go_wp2
      go_ret
      exact ⟨B, d, rfl, hb, hw⟩

end Go.Proofs.YthpnkkbinffmkaaDoor
