/- Flanks of a table of tides, of the program. -/
import Derived.Test.YthpnkkbinffmkaaDoorTideJ
import Derived.Test.YthpnkkbinffmkaaDoorCatflank
import Derived.Test.YthpnkkbinffmkaaDoorOwnSpell
import Derived.Test.YthpnkkbinffmkaaDoorSearchT
import Derived.StillTailTactics
namespace Go.Proofs.YthpnkkbinffmkaaDoor
open Go.RowKit

def flk (xs : List RTide) (k : Nat) : Rflank := ⟨tM xs k, tL xs k, tM xs (k + 1), tL xs (k + 1)⟩
def flL (xs : List RTide) : Nat → List Rflank
  | 0 => []
  | k + 1 => flL xs k ++ [flk xs k]
theorem flL_len (xs : List RTide) (k : Nat) : (flL xs k).length = k := by induction k with | zero => rfl | succ k ih => simp [flL, ih]
theorem flL_at (xs : List RTide) (k j : Nat) (h : j < k) : (flL xs k).getD j zflank = flk xs j := by
  induction k with
  | zero => omega
  | succ k ih =>
    simp only [flL]
    rcases Nat.lt_or_ge j k with c | c
    · rw [List.getD_eq_getElem?_getD, List.getElem?_append_left (by rw [flL_len]; exact c), ← List.getD_eq_getElem?_getD]; exact ih c
    · obtain rfl : j = k := by omega
      rw [List.getD_eq_getElem?_getD, List.getElem?_append_right (by rw [flL_len]; omega), flL_len]
      simp
theorem Rd_flank.fl {w : World} {B n : Nat} {A : Option Addr} {xs : List RTide} (h : Rd_flank w B A n (flL xs n)) (hn : 0 < n) : ∃ b off, A = some ⟨b, off, none⟩ ∧ b < B ∧ ∀ k, k < n → w.cell? ⟨b, off + k * 4, none⟩ = some (.int .i64 (tM xs k)) ∧ w.cell? ⟨b, off + k * 4 + 1, none⟩ = some (.int .i64 (tL xs k)) ∧ w.cell? ⟨b, off + k * 4 + 2, none⟩ = some (.int .i64 (tM xs (k + 1))) ∧ w.cell? ⟨b, off + k * 4 + 3, none⟩ = some (.int .i64 (tL xs (k + 1))) := by
  obtain ⟨b, off, e, hb, hc⟩ := h.at hn
  refine ⟨b, off, e, hb, fun k hk => ?_⟩
  have := hc k hk
  rw [flL_at xs n k hk] at this
  exact this

set_option maxHeartbeats 400000 in
theorem fmin_t (x0 x1 x2 x3 N : Int) (w : World) (h : x2 - x0 = N) (h1 : 0 ≤ N) (h2 : N ≤ 1000000) :
    Calls Tryd.prog 72 #[.agg #[.int .i64 x0, .int .i64 x1, .int .i64 x2, .int .i64 x3]] w fun e w' => e = .returned (.int .i64 N) ∧ Below w.heap.size w w' := by
  have f1 := IntWalk.i64_in (x2 - x0) (by omega)
  have HN := Lib.hid h
  clear h
  go_enter Tryd.func72, Tryd.ntmps72
  go_wp2
  go_ret
  exact ⟨ret_int (by rw [HN.out]), (by repeat (first | assumption | exact Below.refl _ _ | (refine Below.setCell ?_ (by first | omega | (simp; done) | (simp; omega)) _) | apply below_drewN | apply Below.drew | (refine Below.alloc ?_ (by first | omega | (simp; done) | (simp; omega)) _)))⟩

set_option maxHeartbeats 800000 in
theorem floorS_t (a d q : Int) (w : World) (h1 : -4000000000000 ≤ a) (h2 : a ≤ 4000000000000) (hd : 1 ≤ d) (hd2 : d ≤ 4000000000000) (hq : a / d = q) :
    Calls Tryd.prog 53 #[.int .i64 a, .int .i64 d] w fun e w' => e = .returned (.int .i64 q) ∧ w = w' := by
  have HQ := Lib.hid hq
  have hd0 : ¬ d = 0 := by omega
  have b0 : -4000000000000 ≤ a / d ∧ a / d ≤ 4000000000000 := ⟨by
    apply Int.le_ediv_of_mul_le (by omega)
    have : -4000000000000 * d ≤ -4000000000000 * 1 := Int.mul_le_mul_of_nonpos_left (by omega) hd
    omega, by
    have : a / d ≤ a ∨ a / d ≤ 0 := by
      rcases Int.lt_or_le a 0 with c | c
      · exact .inr (Int.le_of_lt (Int.ediv_neg_of_neg_of_pos c (by omega)))
      · exact .inl (Int.ediv_le_self _ c)
    omega⟩
  clear hq
  have m1 := Int.emod_nonneg a hd0
  have m2 := Int.emod_lt_of_pos a (show 0 < d by omega)
  have tq := Int.tdiv_eq_ediv (a := a) (b := d)
  have tm := Int.tmod_eq_emod (a := a) (b := d)
  by_cases hneg : a.tmod d < 0
  · have HE := Lib.hid (show a.tdiv d - 1 = q by
      rw [← HQ.out, tq]
      split
      · rename_i hs
        rw [tm, if_pos hs] at hneg
        omega
      · rw [Int.sign_eq_one_of_pos (by omega)]; omega)
    have e1 : decide (a.tmod d < 0) = true := decide_eq_true hneg
    have b1 : -4000000000000 ≤ a.tdiv d ∧ a.tdiv d ≤ 4000000000001 := by have := HE.out; have := HQ.out; omega
    obtain ⟨b2, b3⟩ := b1
    clear tq tm m1 m2 b0
    go_enter Tryd.func53, Tryd.ntmps53
    go_wp2
    go_ret
    exact ⟨ret_int HE.out, rfl⟩
  · have HE := Lib.hid (show a.tdiv d = q by
      rw [← HQ.out, tq]
      split
      · omega
      · rename_i hs
        rw [tm, if_neg hs] at hneg
        have : ¬ (0 ≤ a ∨ d ∣ a) := hs
        have hne : a % d ≠ 0 := fun h => hs (.inr (Int.dvd_of_emod_eq_zero h))
        omega)
    have e1 : decide (a.tmod d < 0) = false := decide_eq_false hneg
    have b1 : -4000000000000 ≤ a.tdiv d ∧ a.tdiv d ≤ 4000000000001 := by have := HE.out; have := HQ.out; omega
    obtain ⟨b2, b3⟩ := b1
    clear tq tm m1 m2 b0
    go_enter Tryd.func53, Tryd.ntmps53
    go_wp2
    go_ret
    exact ⟨ret_int HE.out, rfl⟩

set_option maxHeartbeats 800000 in
theorem floorI_t (a d q : Int) (w : World) (h1 : -4000000000000 ≤ a) (h2 : a ≤ 4000000000000) (hd : 1 ≤ d) (hd2 : d ≤ 4000000000000) (hq : a / d = q) :
    Calls Tryd.prog 71 #[.int .i64 a, .int .i64 d] w fun e w' => e = .returned (.int .i64 q) ∧ w = w' := by
  have HQ := Lib.hid hq
  have hd0 : ¬ d = 0 := by omega
  have b0 : -4000000000000 ≤ a / d ∧ a / d ≤ 4000000000000 := ⟨by
    apply Int.le_ediv_of_mul_le (by omega)
    have : -4000000000000 * d ≤ -4000000000000 * 1 := Int.mul_le_mul_of_nonpos_left (by omega) hd
    omega, by
    have : a / d ≤ a ∨ a / d ≤ 0 := by
      rcases Int.lt_or_le a 0 with c | c
      · exact .inr (Int.le_of_lt (Int.ediv_neg_of_neg_of_pos c (by omega)))
      · exact .inl (Int.ediv_le_self _ c)
    omega⟩
  clear hq
  have m1 := Int.emod_nonneg a hd0
  have m2 := Int.emod_lt_of_pos a (show 0 < d by omega)
  have tq := Int.tdiv_eq_ediv (a := a) (b := d)
  have tm := Int.tmod_eq_emod (a := a) (b := d)
  by_cases hneg : a.tmod d < 0
  · have HE := Lib.hid (show a.tdiv d - 1 = q by
      rw [← HQ.out, tq]
      split
      · rename_i hs
        rw [tm, if_pos hs] at hneg
        omega
      · rw [Int.sign_eq_one_of_pos (by omega)]; omega)
    have e1 : decide (a.tmod d < 0) = true := decide_eq_true hneg
    have b1 : -4000000000000 ≤ a.tdiv d ∧ a.tdiv d ≤ 4000000000001 := by have := HE.out; have := HQ.out; omega
    obtain ⟨b2, b3⟩ := b1
    clear tq tm m1 m2 b0
    go_enter Tryd.func71, Tryd.ntmps71
    go_wp2
    go_ret
    exact ⟨ret_int HE.out, rfl⟩
  · have HE := Lib.hid (show a.tdiv d = q by
      rw [← HQ.out, tq]
      split
      · omega
      · rename_i hs
        rw [tm, if_neg hs] at hneg
        have : ¬ (0 ≤ a ∨ d ∣ a) := hs
        have hne : a % d ≠ 0 := fun h => hs (.inr (Int.dvd_of_emod_eq_zero h))
        omega)
    have e1 : decide (a.tmod d < 0) = false := decide_eq_false hneg
    have b1 : -4000000000000 ≤ a.tdiv d ∧ a.tdiv d ≤ 4000000000001 := by have := HE.out; have := HQ.out; omega
    obtain ⟨b2, b3⟩ := b1
    clear tq tm m1 m2 b0
    go_enter Tryd.func71, Tryd.ntmps71
    go_wp2
    go_ret
    exact ⟨ret_int HE.out, rfl⟩


set_option maxRecDepth 100000 in
set_option maxHeartbeats 3200000 in
theorem flanks_t (A : Option Addr) (n c : Nat) (xs : List RTide) (w : World) (h1 : 1 ≤ n) (hn : n ≤ 1048576) (ha : Rd_Tide w w.heap.size A n xs) :
    Calls Tryd.prog 56 #[.slice A n c] w fun e w' => ∃ B d, e = .returned (.slice B (n - 1) d) ∧ Below w.heap.size w w' ∧ Wr_flank w' w.heap.size B (n - 1) (flL xs (n - 1)) := by
  have HA := Lib.hid ha
  clear ha
  go_enter Tryd.func56, Tryd.ntmps56
  go_wp2
  go_loopw [3, 4] (fun v i wr => ∃ p : Nat, 1 ≤ p ∧ p ≤ n ∧ i = .int .i64 (p : Int) ∧ Below w.heap.size w wr ∧ w.heap.size ≤ wr.heap.size ∧ wr.ownsRow w.heap.size 85 4 v (p - 1) (csflank (flL xs (p - 1)))) (fun _ i _ => n - (intOf i).toNat)
  case atStart => exact ⟨1, Nat.le_refl _, h1, rfl, Below.refl _ _, Nat.le_refl _, World.ownsRow_nil _ _ _ _⟩
  case round =>
    obtain ⟨p, hp1, hk, rfl, hb, hz, hown⟩ := hrel
    by_cases hlt : p < n
    · obtain ⟨k, hkp⟩ : ∃ k, k = p - 1 := ⟨_, rfl⟩
      obtain ⟨ab, o, rfl, hbB, hc⟩ := (HA.out.below hb).ml (by omega)
      obtain ⟨p0, p1⟩ := hc k (by omega)
      obtain ⟨q0, q1⟩ := hc p hlt
      rw [← hkp] at hown
      have HK := Lib.hid (show k + 1 = p by omega)
      have HS := Lib.hid (show csflank (flL xs k) ++ csflank [⟨tM xs k, tL xs k, tM xs p, tL xs p⟩] = csflank (flL xs p) by rw [← csflank_app, ← HK.out]; rfl)
      have HOW := Lib.hid (fun (O : Obj) => (World.ownsRow.alloc (w := wr.drew) hown O))
      have g2 : IntKind.i64.wrap ((p : Int) - 1) = (k : Int) := (IntWalk.i64_in _ (by omega)).trans (by omega)
      have g3 : k < n := by omega
      have g4 : (k : Int) < (n : Int) := by omega
      have g5 : (p : Int) < (n : Int) := by omega
      have AL := fun (O : Obj) => ((Below.refl wr.heap.size wr).drew.alloc (Nat.le_refl _) O)
      have hab : ab < wr.heap.size := by omega
      clear hc hown hkp
      generalize tM xs k = m at *
      generalize tL xs k = l at *
      generalize tM xs p = m1 at *
      generalize tL xs p = l1 at *
      generalize csflank (flL xs k) = CS at *
      go_wp2_with fail
      refine wp_region_held_drew (S := fun w' => w'.cell? ⟨ab, o + k * 2, none⟩ = some (.int .i64 m) ∧ w'.cell? ⟨ab, o + k * 2 + 1, none⟩ = some (.int .i64 l) ∧ w'.cell? ⟨ab, o + p * 2, none⟩ = some (.int .i64 m1) ∧ w'.cell? ⟨ab, o + p * 2 + 1, none⟩ = some (.int .i64 l1)) (by kernel_rfl) ⟨p0, p1, q0, q1⟩ (fun hHeld => ?_)
      ((refine wpAnyH_take (i := 0) (oi := ⟨some 11, _, _, _, _, _⟩) (v := ?_) rfl (by kernel_rfl) (by kernel_rfl) (by kernel_rfl) (fun _ _ _ h => h) (Or.inl ⟨by rfl, ?_⟩) (by assumption) ?_; rotate_left 1; (focus (intro w hSw; (try dsimp only at hSw); go_simp <;> try (first | (with_reducible rfl) | (rw [if_neg (by omega)])))); try simp only [Act.put, List.setIfInBounds_toArray, List.set_cons_zero, List.set_cons_succ]); (refine wpAnyH_take (i := 1) (oi := ⟨some 12, _, _, _, _, _⟩) (v := ?_) rfl (by kernel_rfl) (by kernel_rfl) (by kernel_rfl) (fun _ _ _ h => h) (Or.inl ⟨by rfl, ?_⟩) (by assumption) ?_; rotate_left 1; (focus (intro w hSw; (try dsimp only at hSw); go_simp <;> try (first | (with_reducible rfl) | (rw [if_neg (by omega)])))); try simp only [Act.put, List.setIfInBounds_toArray, List.set_cons_zero, List.set_cons_succ]); (refine wpAnyH_take (i := 2) (oi := ⟨some 13, _, _, _, _, _⟩) (v := ?_) rfl (by kernel_rfl) (by kernel_rfl) (by kernel_rfl) (fun _ _ _ h => h) (Or.inl ⟨by rfl, ?_⟩) (by assumption) ?_; rotate_left 1; (focus (intro w hSw; (try dsimp only at hSw); go_simp <;> try (first | (with_reducible rfl) | (rw [if_neg (by omega)])))); try simp only [Act.put, List.setIfInBounds_toArray, List.set_cons_zero, List.set_cons_succ]); (refine wpAnyH_take (i := 3) (oi := ⟨some 14, _, _, _, _, _⟩) (v := ?_) rfl (by kernel_rfl) (by kernel_rfl) (by kernel_rfl) (fun _ _ _ h => h) (Or.inl ⟨by rfl, ?_⟩) (by assumption) ?_; rotate_left 1; (focus (intro w hSw; (try dsimp only at hSw); go_simp <;> try (first | (with_reducible rfl) | (rw [if_neg (by omega)])))); try simp only [Act.put, List.setIfInBounds_toArray, List.set_cons_zero, List.set_cons_succ]); (refine wpAnyH_take (i := 4) (oi := ⟨some 15, _, _, _, _, _⟩) (v := ?_) rfl (by kernel_rfl) (by kernel_rfl) (by kernel_rfl) (fun _ _ _ h => h) (Or.inl ⟨by rfl, ?_⟩) (by assumption) ?_; rotate_left 1; (focus (intro w hSw; (try dsimp only at hSw); go_simp <;> try (first | (with_reducible rfl) | (rw [if_neg (by omega)])))); try simp only [Act.put, List.setIfInBounds_toArray, List.set_cons_zero, List.set_cons_succ]); (refine wpAnyH_take (i := 5) (oi := ⟨some 16, _, _, _, _, _⟩) (v := ?_) rfl (by kernel_rfl) (by kernel_rfl) (by kernel_rfl) (fun _ _ _ h => h) (Or.inl ⟨by rfl, ?_⟩) (by assumption) ?_; rotate_left 1; (focus (intro w hSw; (try dsimp only at hSw); go_simp <;> try (first | (with_reducible rfl) | (rw [if_neg (by omega)])))); try simp only [Act.put, List.setIfInBounds_toArray, List.set_cons_zero, List.set_cons_succ]); (refine wpAnyH_take (i := 6) (oi := ⟨some 17, _, _, _, _, _⟩) (v := ?_) rfl (by kernel_rfl) (by kernel_rfl) (by kernel_rfl) (fun _ _ _ h => h) (Or.inl ⟨by rfl, ?_⟩) (by assumption) ?_; rotate_left 1; (focus (intro w hSw; (try dsimp only at hSw); go_simp <;> try (first | (with_reducible rfl) | (rw [if_neg (by omega)])))); try simp only [Act.put, List.setIfInBounds_toArray, List.set_cons_zero, List.set_cons_succ]); (refine wpAnyH_take (i := 7) (oi := ⟨some 18, _, _, _, _, _⟩) (v := ?_) rfl (by kernel_rfl) (by kernel_rfl) (by kernel_rfl) (fun _ _ _ h => h) (Or.inl ⟨by rfl, ?_⟩) (by assumption) ?_; rotate_left 1; (focus (intro w hSw; (try dsimp only at hSw); go_simp <;> try (first | (with_reducible rfl) | (rw [if_neg (by omega)])))); try simp only [Act.put, List.setIfInBounds_toArray, List.set_cons_zero, List.set_cons_succ]); (refine wpAnyH_take (i := 8) (oi := ⟨some 19, _, _, _, _, _⟩) (v := ?_) rfl (by kernel_rfl) (by kernel_rfl) (by kernel_rfl) (fun _ _ _ h => h) (Or.inl ⟨by rfl, ?_⟩) (by assumption) ?_; rotate_left 1; (focus (intro w hSw; (try dsimp only at hSw); go_simp <;> try (first | (with_reducible rfl) | (rw [if_neg (by omega)])))); try simp only [Act.put, List.setIfInBounds_toArray, List.set_cons_zero, List.set_cons_succ]); (refine wpAnyH_take (i := 9) (oi := ⟨some 20, _, _, _, _, _⟩) (v := ?_) rfl (by kernel_rfl) (by kernel_rfl) (by kernel_rfl) (fun _ _ _ h => h) (Or.inl ⟨by rfl, ?_⟩) (by assumption) ?_; rotate_left 1; (focus (intro w hSw; (try dsimp only at hSw); go_simp <;> try (first | (with_reducible rfl) | (rw [if_neg (by omega)])))); try simp only [Act.put, List.setIfInBounds_toArray, List.set_cons_zero, List.set_cons_succ]); (refine wpAnyH_take (i := 10) (oi := ⟨some 21, _, _, _, _, _⟩) (v := ?_) rfl (by kernel_rfl) (by kernel_rfl) (by kernel_rfl) (fun _ _ _ h => h) (Or.inl ⟨by rfl, ?_⟩) (by assumption) ?_; rotate_left 1; (focus (intro w hSw; (try dsimp only at hSw); go_simp <;> try (first | (with_reducible rfl) | (rw [if_neg (by omega)])))); try simp only [Act.put, List.setIfInBounds_toArray, List.set_cons_zero, List.set_cons_succ]))
      refine wpAnyH_ready (rs := [11]) (by kernel_rfl) (by simp) ?_
      refine AllReadyH.cons (o := ⟨some 22, _, _, _, _, _⟩) rfl (fun K hK => ?_) AllReadyH.nil
      go_simp
      clear hHeld
      (refine hK.out _ _ ?_ (fun hHeld => ?_))
      · exact ⟨((AL _).cell (p := ⟨ab, _, none⟩) hab).trans p0, ((AL _).cell (p := ⟨ab, _, none⟩) hab).trans p1, ((AL _).cell (p := ⟨ab, _, none⟩) hab).trans q0, ((AL _).cell (p := ⟨ab, _, none⟩) hab).trans q1⟩
      try simp only [Act.put, List.setIfInBounds_toArray, List.set_cons_zero, List.set_cons_succ]
      refine wpAnyH_ready (rs := [12]) (by kernel_rfl) (by simp) ?_
      refine AllReadyH.cons (o := ⟨some 23, _, _, _, _, _⟩) rfl (fun K hK => ?_) AllReadyH.nil
      refine wpAppflank (.tmp 11) (.tmp 22) rfl _ w.heap.size k 1 1 (wr.heap.size + 1) (some ⟨wr.heap.size, 0, none⟩) _ _ [⟨m, l, m1, l1⟩] rfl (HOW.out _) rfl (one_rdflank wr ⟨m, l, m1, l1⟩ 85) (by omega) (by simp; omega) ?_
      intro v1 w1 hown1 hb1 hz1
      have HV := Lib.hid hown1
      have bw1 : Below w.heap.size wr w1 := ((AL _).mono hz).trans hb1
      have d1 : Below w.heap.size w w1 := hb.trans bw1
      have s1 : w.heap.size ≤ w1.heap.size := d1.size
      clear hown1 hb1 hz1
      clear hHeld
      (refine hK.out _ _ ?_ (fun hHeld => ?_))
      · exact ⟨(bw1.cell (p := ⟨ab, _, none⟩) hbB).trans p0, (bw1.cell (p := ⟨ab, _, none⟩) hbB).trans p1, (bw1.cell (p := ⟨ab, _, none⟩) hbB).trans q0, (bw1.cell (p := ⟨ab, _, none⟩) hbB).trans q1⟩
      ((refine wpAnyH_take (i := 13) (oi := ⟨some 3, _, _, _, _, _⟩) (v := ?_) rfl (by kernel_rfl) (by kernel_rfl) (by kernel_rfl) (fun _ _ _ h => h) (Or.inl ⟨by rfl, ?_⟩) (by assumption) ?_; rotate_left 1; (focus (intro w hSw; (try dsimp only at hSw); go_simp <;> try (first | (with_reducible rfl) | (rw [if_neg (by omega)])))); try simp only [Act.put, List.setIfInBounds_toArray, List.set_cons_zero, List.set_cons_succ]))
      refine wpAnyH_done (by kernel_rfl) ?_ _
      go_wp2
      go_roundw
      case rel => exact ⟨p + 1, by omega, by omega, by go_num, d1, s1, by rw [Nat.add_sub_cancel, ← HS.out]; have := HV.out; rw [HK.out] at this; exact this⟩
      case measure => simp [intOf]; omega
    · obtain rfl : p = n := by omega
      obtain ⟨B, d, rfl, hw⟩ := own_wrflank hown
      go_wp2
      go_ret
      exact ⟨B, d, rfl, hb, hw⟩

set_option maxRecDepth 100000 in
set_option maxHeartbeats 1600000 in
theorem ends_up (x0 x1 x2 x3 : Int) (w : World) (h : x1 ≤ x3) :
    Calls Tryd.prog 70 #[.agg #[.int .i64 x0, .int .i64 x1, .int .i64 x2, .int .i64 x3]] w fun e w' => e = .returned (.tuple #[.agg #[.int .i64 x2, .int .i64 x3], .agg #[.int .i64 x0, .int .i64 x1]]) ∧ Below w.heap.size w w' := by
  have HU := Lib.hid (show true = decide (x1 ≤ x3) by simp [h])
  clear h
  go_enter Tryd.func70, Tryd.ntmps70
  go_wp2_with (go_at_call 75; refine (up_t _ _ _ _ _ true HU.out).mono ?_; rintro e1 W1 ⟨rfl, b1⟩; have s1 : w.heap.size + 1 + 1 < W1.heap.size := (by have := b1.size; simp at this; omega); obtain ⟨k1, f1⟩ := bcell b1; have z0 : W1.cell? ⟨w.heap.size, 0, none⟩ = some (.int .i64 x0) := (by rw [k1 _ _ (by first | omega | (simp; done) | (simp; omega))]; first | (simp; done) | go_simp); have zf0 : W1.frozen? ⟨w.heap.size, 0, none⟩ = false := (by rw [f1 _ _ (by first | omega | (simp; done) | (simp; omega))]; first | (simp; done) | go_simp); have z1 : W1.cell? ⟨w.heap.size, 1, none⟩ = some (.int .i64 x1) := (by rw [k1 _ _ (by first | omega | (simp; done) | (simp; omega))]; first | (simp; done) | go_simp); have zf1 : W1.frozen? ⟨w.heap.size, 1, none⟩ = false := (by rw [f1 _ _ (by first | omega | (simp; done) | (simp; omega))]; first | (simp; done) | go_simp); have z2 : W1.cell? ⟨w.heap.size, 2, none⟩ = some (.int .i64 x2) := (by rw [k1 _ _ (by first | omega | (simp; done) | (simp; omega))]; first | (simp; done) | go_simp); have zf2 : W1.frozen? ⟨w.heap.size, 2, none⟩ = false := (by rw [f1 _ _ (by first | omega | (simp; done) | (simp; omega))]; first | (simp; done) | go_simp); have z3 : W1.cell? ⟨w.heap.size, 3, none⟩ = some (.int .i64 x3) := (by rw [k1 _ _ (by first | omega | (simp; done) | (simp; omega))]; first | (simp; done) | go_simp); have zf3 : W1.frozen? ⟨w.heap.size, 3, none⟩ = false := (by rw [f1 _ _ (by first | omega | (simp; done) | (simp; omega))]; first | (simp; done) | go_simp); have y0 : W1.cell? ⟨w.heap.size + 1, 0, none⟩ = some (.int .i64 0) := (by rw [k1 _ _ (by first | omega | (simp; done) | (simp; omega))]; first | (simp; done) | go_simp); have yf0 : W1.frozen? ⟨w.heap.size + 1, 0, none⟩ = false := (by rw [f1 _ _ (by first | omega | (simp; done) | (simp; omega))]; first | (simp; done) | go_simp); have y1 : W1.cell? ⟨w.heap.size + 1, 1, none⟩ = some (.int .i64 0) := (by rw [k1 _ _ (by first | omega | (simp; done) | (simp; omega))]; first | (simp; done) | go_simp); have yf1 : W1.frozen? ⟨w.heap.size + 1, 1, none⟩ = false := (by rw [f1 _ _ (by first | omega | (simp; done) | (simp; omega))]; first | (simp; done) | go_simp); have v0 : W1.cell? ⟨w.heap.size + 1 + 1, 0, none⟩ = some (.int .i64 0) := (by rw [k1 _ _ (by first | omega | (simp; done) | (simp; omega))]; first | (simp; done) | go_simp); have vf0 : W1.frozen? ⟨w.heap.size + 1 + 1, 0, none⟩ = false := (by rw [f1 _ _ (by first | omega | (simp; done) | (simp; omega))]; first | (simp; done) | go_simp); have v1 : W1.cell? ⟨w.heap.size + 1 + 1, 1, none⟩ = some (.int .i64 0) := (by rw [k1 _ _ (by first | omega | (simp; done) | (simp; omega))]; first | (simp; done) | go_simp); have vf1 : W1.frozen? ⟨w.heap.size + 1 + 1, 1, none⟩ = false := (by rw [f1 _ _ (by first | omega | (simp; done) | (simp; omega))]; first | (simp; done) | go_simp); clear k1 f1; have d1 : Below w.heap.size w W1 := (by repeat (first | assumption | exact Below.refl _ _ | (refine Below.trans ?_ (b1.mono (by first | omega | (simp; done) | (simp; omega)))) | (refine Below.setCell ?_ (by first | omega | (simp; done) | (simp; omega)) _) | apply below_drewN | apply Below.drew | (refine Below.alloc ?_ (by first | omega | (simp; done) | (simp; omega)) _))); clear b1)
  go_region
  all_goals
    go_wp2
    exact bodyPost_ret (v := .tuple #[.agg #[.int .i64 x2, .int .i64 x3], .agg #[.int .i64 x0, .int .i64 x1]]) (by simp [results, Tryd.results70, go_sem, z0, z1, z2, z3, y0, y1, v0, v1]) rfl ⟨rfl, (by repeat (first | assumption | exact Below.refl _ _ | (refine Below.trans ?_ (d1.mono (by first | omega | (simp; done) | (simp; omega)))) | (refine Below.setCell ?_ (by first | omega | (simp; done) | (simp; omega)) _) | apply below_drewN | apply Below.drew | (refine Below.alloc ?_ (by first | omega | (simp; done) | (simp; omega)) _)))⟩

set_option maxRecDepth 100000 in
set_option maxHeartbeats 1600000 in
theorem ends_dn (x0 x1 x2 x3 : Int) (w : World) (h : ¬ x1 ≤ x3) :
    Calls Tryd.prog 70 #[.agg #[.int .i64 x0, .int .i64 x1, .int .i64 x2, .int .i64 x3]] w fun e w' => e = .returned (.tuple #[.agg #[.int .i64 x0, .int .i64 x1], .agg #[.int .i64 x2, .int .i64 x3]]) ∧ Below w.heap.size w w' := by
  have HU := Lib.hid (show false = decide (x1 ≤ x3) by simp [h])
  clear h
  go_enter Tryd.func70, Tryd.ntmps70
  go_wp2_with (go_at_call 75; refine (up_t _ _ _ _ _ false HU.out).mono ?_; rintro e1 W1 ⟨rfl, b1⟩; have s1 : w.heap.size + 1 + 1 < W1.heap.size := (by have := b1.size; simp at this; omega); obtain ⟨k1, f1⟩ := bcell b1; have z0 : W1.cell? ⟨w.heap.size, 0, none⟩ = some (.int .i64 x0) := (by rw [k1 _ _ (by first | omega | (simp; done) | (simp; omega))]; first | (simp; done) | go_simp); have zf0 : W1.frozen? ⟨w.heap.size, 0, none⟩ = false := (by rw [f1 _ _ (by first | omega | (simp; done) | (simp; omega))]; first | (simp; done) | go_simp); have z1 : W1.cell? ⟨w.heap.size, 1, none⟩ = some (.int .i64 x1) := (by rw [k1 _ _ (by first | omega | (simp; done) | (simp; omega))]; first | (simp; done) | go_simp); have zf1 : W1.frozen? ⟨w.heap.size, 1, none⟩ = false := (by rw [f1 _ _ (by first | omega | (simp; done) | (simp; omega))]; first | (simp; done) | go_simp); have z2 : W1.cell? ⟨w.heap.size, 2, none⟩ = some (.int .i64 x2) := (by rw [k1 _ _ (by first | omega | (simp; done) | (simp; omega))]; first | (simp; done) | go_simp); have zf2 : W1.frozen? ⟨w.heap.size, 2, none⟩ = false := (by rw [f1 _ _ (by first | omega | (simp; done) | (simp; omega))]; first | (simp; done) | go_simp); have z3 : W1.cell? ⟨w.heap.size, 3, none⟩ = some (.int .i64 x3) := (by rw [k1 _ _ (by first | omega | (simp; done) | (simp; omega))]; first | (simp; done) | go_simp); have zf3 : W1.frozen? ⟨w.heap.size, 3, none⟩ = false := (by rw [f1 _ _ (by first | omega | (simp; done) | (simp; omega))]; first | (simp; done) | go_simp); have y0 : W1.cell? ⟨w.heap.size + 1, 0, none⟩ = some (.int .i64 0) := (by rw [k1 _ _ (by first | omega | (simp; done) | (simp; omega))]; first | (simp; done) | go_simp); have yf0 : W1.frozen? ⟨w.heap.size + 1, 0, none⟩ = false := (by rw [f1 _ _ (by first | omega | (simp; done) | (simp; omega))]; first | (simp; done) | go_simp); have y1 : W1.cell? ⟨w.heap.size + 1, 1, none⟩ = some (.int .i64 0) := (by rw [k1 _ _ (by first | omega | (simp; done) | (simp; omega))]; first | (simp; done) | go_simp); have yf1 : W1.frozen? ⟨w.heap.size + 1, 1, none⟩ = false := (by rw [f1 _ _ (by first | omega | (simp; done) | (simp; omega))]; first | (simp; done) | go_simp); have v0 : W1.cell? ⟨w.heap.size + 1 + 1, 0, none⟩ = some (.int .i64 0) := (by rw [k1 _ _ (by first | omega | (simp; done) | (simp; omega))]; first | (simp; done) | go_simp); have vf0 : W1.frozen? ⟨w.heap.size + 1 + 1, 0, none⟩ = false := (by rw [f1 _ _ (by first | omega | (simp; done) | (simp; omega))]; first | (simp; done) | go_simp); have v1 : W1.cell? ⟨w.heap.size + 1 + 1, 1, none⟩ = some (.int .i64 0) := (by rw [k1 _ _ (by first | omega | (simp; done) | (simp; omega))]; first | (simp; done) | go_simp); have vf1 : W1.frozen? ⟨w.heap.size + 1 + 1, 1, none⟩ = false := (by rw [f1 _ _ (by first | omega | (simp; done) | (simp; omega))]; first | (simp; done) | go_simp); clear k1 f1; have d1 : Below w.heap.size w W1 := (by repeat (first | assumption | exact Below.refl _ _ | (refine Below.trans ?_ (b1.mono (by first | omega | (simp; done) | (simp; omega)))) | (refine Below.setCell ?_ (by first | omega | (simp; done) | (simp; omega)) _) | apply below_drewN | apply Below.drew | (refine Below.alloc ?_ (by first | omega | (simp; done) | (simp; omega)) _))); clear b1)
  go_region
  all_goals
    go_wp2
    exact bodyPost_ret (v := .tuple #[.agg #[.int .i64 x0, .int .i64 x1], .agg #[.int .i64 x2, .int .i64 x3]]) (by simp [results, Tryd.results70, go_sem, z0, z1, z2, z3, y0, y1, v0, v1]) rfl ⟨rfl, (by repeat (first | assumption | exact Below.refl _ _ | (refine Below.trans ?_ (d1.mono (by first | omega | (simp; done) | (simp; omega)))) | (refine Below.setCell ?_ (by first | omega | (simp; done) | (simp; omega)) _) | apply below_drewN | apply Below.drew | (refine Below.alloc ?_ (by first | omega | (simp; done) | (simp; omega)) _)))⟩

set_option maxRecDepth 100000 in
set_option maxHeartbeats 3200000 in
theorem fLevel_t (x0 x1 x2 x3 m N num : Int) (w : World) (hN : x2 - x0 = N) (h1 : 1 ≤ N ∧ N ≤ 100000) (hl : -2000 ≤ x1 ∧ x1 ≤ 2000 ∧ -2000 ≤ x3 ∧ x3 ≤ 2000) (hm : 0 ≤ m - x0 ∧ m - x0 ≤ 100000) (hnum : x1 * N + (x3 - x1) * (m - x0) = num) (hp : -400000000 ≤ (x3 - x1) * (m - x0) ∧ (x3 - x1) * (m - x0) ≤ 400000000) (hq : -200000000 ≤ x1 * N ∧ x1 * N ≤ 200000000) :
    Calls Tryd.prog 79 #[.agg #[.int .i64 x0, .int .i64 x1, .int .i64 x2, .int .i64 x3], .int .i64 m] w fun e w' => e = .returned (.agg #[.int .i64 (fnum num N), .int .i64 (fden num N)]) ∧ Below w.heap.size w w' := by
  obtain ⟨h1, h2⟩ := h1
  obtain ⟨l1, l2, l3, l4⟩ := hl
  obtain ⟨m1, m2⟩ := hm
  obtain ⟨p1, p2⟩ := hp
  obtain ⟨q1, q2⟩ := hq
  have f1 := IntWalk.i64_in (x3 - x1) (by omega)
  have f2 := IntWalk.i64_in (m - x0) (by omega)
  have f3 := IntWalk.i64_in ((x3 - x1) * (m - x0)) (by omega)
  have f4 := IntWalk.i64_in (x1 * N) (by omega)
  have f5 : IntKind.i64.wrap (x1 * N + (x3 - x1) * (m - x0)) = num := (IntWalk.i64_in _ (by omega)).trans hnum
  have HN := Lib.hid hN
  have n1 : -1000000000 ≤ num := by omega
  have n2 : num ≤ 1000000000 := by omega
  clear hN hnum
  have f6 := IntWalk.wrap64_in ((x3 - x1) * (m - x0)) (by omega)
  go_enter Tryd.func79, Tryd.ntmps79
  go_wp2_with fail
  refine wp_region_held_drew (S := fun w' => w'.cell? ⟨w.heap.size, 0, none⟩ = some (.int .i64 x0) ∧ w'.cell? ⟨w.heap.size, 1, none⟩ = some (.int .i64 x1) ∧ w'.cell? ⟨w.heap.size, 2, none⟩ = some (.int .i64 x2) ∧ w'.cell? ⟨w.heap.size, 3, none⟩ = some (.int .i64 x3)) (by kernel_rfl) ⟨by simp, by simp, by simp, by simp⟩ (fun hHeld => ?_)
  ((refine wpAnyH_take (i := 0) (oi := ⟨some 19, _, _, _, _, _⟩) (v := ?_) rfl (by kernel_rfl) (by kernel_rfl) (by kernel_rfl) (fun _ _ _ h => h) (Or.inl ⟨by rfl, ?_⟩) (by assumption) ?_; rotate_left 1; (focus (intro w hSw; (try dsimp only at hSw); go_simp <;> try (first | (with_reducible rfl) | (rw [if_neg (by omega)])))); try simp only [Act.put, List.setIfInBounds_toArray, List.set_cons_zero, List.set_cons_succ]); (refine wpAnyH_take (i := 1) (oi := ⟨some 20, _, _, _, _, _⟩) (v := ?_) rfl (by kernel_rfl) (by kernel_rfl) (by kernel_rfl) (fun _ _ _ h => h) (Or.inl ⟨by rfl, ?_⟩) (by assumption) ?_; rotate_left 1; (focus (intro w hSw; (try dsimp only at hSw); go_simp <;> try (first | (with_reducible rfl) | (rw [if_neg (by omega)])))); try simp only [Act.put, List.setIfInBounds_toArray, List.set_cons_zero, List.set_cons_succ]); (refine wpAnyH_take (i := 2) (oi := ⟨some 21, _, _, _, _, _⟩) (v := ?_) rfl (by kernel_rfl) (by kernel_rfl) (by kernel_rfl) (fun _ _ _ h => h) (Or.inl ⟨by rfl, ?_⟩) (by assumption) ?_; rotate_left 1; (focus (intro w hSw; (try dsimp only at hSw); go_simp <;> try (first | (with_reducible rfl) | (rw [if_neg (by omega)])))); try simp only [Act.put, List.setIfInBounds_toArray, List.set_cons_zero, List.set_cons_succ]); (refine wpAnyH_take (i := 3) (oi := ⟨some 22, _, _, _, _, _⟩) (v := ?_) rfl (by kernel_rfl) (by kernel_rfl) (by kernel_rfl) (fun _ _ _ h => h) (Or.inl ⟨by rfl, ?_⟩) (by assumption) ?_; rotate_left 1; (focus (intro w hSw; (try dsimp only at hSw); go_simp <;> try (first | (with_reducible rfl) | (rw [if_neg (by omega)])))); try simp only [Act.put, List.setIfInBounds_toArray, List.set_cons_zero, List.set_cons_succ]); (refine wpAnyH_take (i := 6) (oi := ⟨some 25, _, _, _, _, _⟩) (v := ?_) rfl (by kernel_rfl) (by kernel_rfl) (by kernel_rfl) (fun _ _ _ h => h) (Or.inl ⟨by rfl, ?_⟩) (by assumption) ?_; rotate_left 1; (focus (intro w hSw; (try dsimp only at hSw); go_simp <;> try (first | (with_reducible rfl) | (rw [if_neg (by omega)])))); try simp only [Act.put, List.setIfInBounds_toArray, List.set_cons_zero, List.set_cons_succ]); (refine wpAnyH_take (i := 8) (oi := ⟨some 27, _, _, _, _, _⟩) (v := ?_) rfl (by kernel_rfl) (by kernel_rfl) (by kernel_rfl) (fun _ _ _ h => h) (Or.inl ⟨by rfl, ?_⟩) (by assumption) ?_; rotate_left 1; (focus (intro w hSw; (try dsimp only at hSw); go_simp <;> try (first | (with_reducible rfl) | (rw [if_neg (by omega)])))); try simp only [Act.put, List.setIfInBounds_toArray, List.set_cons_zero, List.set_cons_succ]))
  refine wpAnyH_ready (rs := [4]) (by kernel_rfl) (by simp) ?_
  refine AllReadyH.cons (o := ⟨some 23, _, _, _, _, _⟩) rfl (fun K hK => ?_) AllReadyH.nil
  go_simp
  refine (fmin_t x0 x1 x2 x3 N _ HN.out (by omega) (by omega)).mono ?_
  rintro e0 W0 ⟨rfl, b0⟩
  have z0_0 := (b0.cell (p := ⟨w.heap.size, 0, none⟩) (by first | omega | (simp; done) | (simp; omega))).trans hHeld.1
  have z0_1 := (b0.cell (p := ⟨w.heap.size, 1, none⟩) (by first | omega | (simp; done) | (simp; omega))).trans hHeld.2.1
  have z0_2 := (b0.cell (p := ⟨w.heap.size, 2, none⟩) (by first | omega | (simp; done) | (simp; omega))).trans hHeld.2.2.1
  have z0_3 := (b0.cell (p := ⟨w.heap.size, 3, none⟩) (by first | omega | (simp; done) | (simp; omega))).trans hHeld.2.2.2
  have z0_4 : W0.cell? ⟨w.heap.size + 1, 0, none⟩ = some (.int .i64 0) := (b0.cell (p := ⟨w.heap.size + 1, 0, none⟩) (by first | omega | (simp; done) | (simp; omega))).trans (by first | (simp; done) | go_simp)
  have z0_5 : W0.cell? ⟨w.heap.size + 1, 1, none⟩ = some (.int .i64 0) := (b0.cell (p := ⟨w.heap.size + 1, 1, none⟩) (by first | omega | (simp; done) | (simp; omega))).trans (by first | (simp; done) | go_simp)
  have z0_f0 : W0.frozen? ⟨w.heap.size + 1, 0, none⟩ = false := (b0.frozen (p := ⟨w.heap.size + 1, 0, none⟩) (by first | omega | (simp; done) | (simp; omega))).trans (by first | (simp; done) | go_simp)
  have z0_f1 : W0.frozen? ⟨w.heap.size + 1, 1, none⟩ = false := (b0.frozen (p := ⟨w.heap.size + 1, 1, none⟩) (by first | omega | (simp; done) | (simp; omega))).trans (by first | (simp; done) | go_simp)
  have s0 : w.heap.size + 1 < W0.heap.size := (by have := b0.size; (try simp at this); omega)
  have d0 : Below w.heap.size w W0 := (by repeat (first | assumption | exact Below.refl _ _ | (refine Below.trans ?_ (b0.mono (by first | omega | (simp; done) | (simp; omega)))) | (refine Below.setCell ?_ (by first | omega | (simp; done) | (simp; omega)) _) | apply below_drewN | apply Below.drew | (refine Below.alloc ?_ (by first | omega | (simp; done) | (simp; omega)) _)))
  clear hHeld
  (refine hK.out _ _ ?_ (fun hHeld => ?_))
  · exact ⟨z0_0, z0_1, z0_2, z0_3⟩
  ((refine wpAnyH_take (i := 5) (oi := ⟨some 24, _, _, _, _, _⟩) (v := ?_) rfl (by kernel_rfl) (by kernel_rfl) (by kernel_rfl) (fun _ _ _ h => h) (Or.inl ⟨by rfl, ?_⟩) (by assumption) ?_; rotate_left 1; (focus (intro w hSw; (try dsimp only at hSw); go_simp <;> try (first | (with_reducible rfl) | (rw [if_neg (by omega)])))); try simp only [Act.put, List.setIfInBounds_toArray, List.set_cons_zero, List.set_cons_succ]); (refine wpAnyH_take (i := 7) (oi := ⟨some 26, _, _, _, _, _⟩) (v := ?_) rfl (by kernel_rfl) (by kernel_rfl) (by kernel_rfl) (fun _ _ _ h => h) (Or.inl ⟨by rfl, ?_⟩) (by assumption) ?_; rotate_left 1; (focus (intro w hSw; (try dsimp only at hSw); go_simp <;> try (first | (with_reducible rfl) | (rw [if_neg (by omega)])))); try simp only [Act.put, List.setIfInBounds_toArray, List.set_cons_zero, List.set_cons_succ]))
  refine wpAnyH_ready (rs := [9]) (by kernel_rfl) (by simp) ?_
  refine AllReadyH.cons (o := ⟨some 28, _, _, _, _, _⟩) rfl (fun K hK => ?_) AllReadyH.nil
  go_simp
  refine (fmin_t x0 x1 x2 x3 N _ HN.out (by omega) (by omega)).mono ?_
  rintro e1 W1 ⟨rfl, b1⟩
  have z1_0 := (b1.cell (p := ⟨w.heap.size, 0, none⟩) (by first | omega | (simp; done) | (simp; omega))).trans hHeld.1
  have z1_1 := (b1.cell (p := ⟨w.heap.size, 1, none⟩) (by first | omega | (simp; done) | (simp; omega))).trans hHeld.2.1
  have z1_2 := (b1.cell (p := ⟨w.heap.size, 2, none⟩) (by first | omega | (simp; done) | (simp; omega))).trans hHeld.2.2.1
  have z1_3 := (b1.cell (p := ⟨w.heap.size, 3, none⟩) (by first | omega | (simp; done) | (simp; omega))).trans hHeld.2.2.2
  have z1_4 : W1.cell? ⟨w.heap.size + 1, 0, none⟩ = some (.int .i64 0) := (b1.cell (p := ⟨w.heap.size + 1, 0, none⟩) (by first | omega | (simp; done) | (simp; omega))).trans z0_4
  have z1_5 : W1.cell? ⟨w.heap.size + 1, 1, none⟩ = some (.int .i64 0) := (b1.cell (p := ⟨w.heap.size + 1, 1, none⟩) (by first | omega | (simp; done) | (simp; omega))).trans z0_5
  have z1_f0 : W1.frozen? ⟨w.heap.size + 1, 0, none⟩ = false := (b1.frozen (p := ⟨w.heap.size + 1, 0, none⟩) (by first | omega | (simp; done) | (simp; omega))).trans z0_f0
  have z1_f1 : W1.frozen? ⟨w.heap.size + 1, 1, none⟩ = false := (b1.frozen (p := ⟨w.heap.size + 1, 1, none⟩) (by first | omega | (simp; done) | (simp; omega))).trans z0_f1
  have s1 : w.heap.size + 1 < W1.heap.size := (by have := b1.size; (try simp at this); omega)
  have d1 : Below w.heap.size w W1 := d0.trans (b1.mono (by omega))
  clear hHeld
  (refine hK.out _ _ ?_ (fun hHeld => ?_))
  · exact ⟨z1_0, z1_1, z1_2, z1_3⟩
  refine wpAnyH_ready (rs := [10]) (by kernel_rfl) (by simp) ?_
  refine AllReadyH.cons (o := ⟨some 29, _, _, _, _, _⟩) rfl (fun K hK => ?_) AllReadyH.nil
  go_simp
  refine (impl_lowest num N _ (by omega) (by omega) (by omega) (by omega)).mono ?_
  rintro e2 W2 ⟨rfl, b2⟩
  have z2_0 := (b2.cell (p := ⟨w.heap.size, 0, none⟩) (by first | omega | (simp; done) | (simp; omega))).trans hHeld.1
  have z2_1 := (b2.cell (p := ⟨w.heap.size, 1, none⟩) (by first | omega | (simp; done) | (simp; omega))).trans hHeld.2.1
  have z2_2 := (b2.cell (p := ⟨w.heap.size, 2, none⟩) (by first | omega | (simp; done) | (simp; omega))).trans hHeld.2.2.1
  have z2_3 := (b2.cell (p := ⟨w.heap.size, 3, none⟩) (by first | omega | (simp; done) | (simp; omega))).trans hHeld.2.2.2
  have z2_4 : W2.cell? ⟨w.heap.size + 1, 0, none⟩ = some (.int .i64 0) := (b2.cell (p := ⟨w.heap.size + 1, 0, none⟩) (by first | omega | (simp; done) | (simp; omega))).trans z1_4
  have z2_5 : W2.cell? ⟨w.heap.size + 1, 1, none⟩ = some (.int .i64 0) := (b2.cell (p := ⟨w.heap.size + 1, 1, none⟩) (by first | omega | (simp; done) | (simp; omega))).trans z1_5
  have z2_f0 : W2.frozen? ⟨w.heap.size + 1, 0, none⟩ = false := (b2.frozen (p := ⟨w.heap.size + 1, 0, none⟩) (by first | omega | (simp; done) | (simp; omega))).trans z1_f0
  have z2_f1 : W2.frozen? ⟨w.heap.size + 1, 1, none⟩ = false := (b2.frozen (p := ⟨w.heap.size + 1, 1, none⟩) (by first | omega | (simp; done) | (simp; omega))).trans z1_f1
  have s2 : w.heap.size + 1 < W2.heap.size := (by have := b2.size; omega)
  have d2 : Below w.heap.size w W2 := d1.trans (b2.mono (by omega))
  clear hHeld
  (refine hK.out _ _ ?_ (fun hHeld => ?_))
  · exact ⟨z2_0, z2_1, z2_2, z2_3⟩
  refine wpAnyH_ready (rs := [11]) (by kernel_rfl) (by simp) ?_
  refine AllReadyH.cons (o := ⟨none, _, _, _, _, _⟩) rfl (fun K hK => ?_) AllReadyH.nil
  go_simp
  have y0 := z2_0
  have y1 := z2_1
  have y2 := z2_2
  have y3 := z2_3
  clear hHeld
  (refine hK.out _ _ ?_ (fun hHeld => ?_))
  · exact ⟨(by first | (simp; done) | go_simp), (by first | (simp; done) | go_simp), (by first | (simp; done) | go_simp), (by first | (simp; done) | go_simp)⟩
  refine wpAnyH_done (by kernel_rfl) ?_ _
  go_wp2
  exact bodyPost_ret (v := .agg #[.int .i64 (fnum num N), .int .i64 (fden num N)]) (by simp [results, Tryd.results79, go_sem, z2_4, z2_5]) rfl ⟨rfl, (by repeat (first | assumption | exact Below.refl _ _ | (refine Below.trans ?_ (d2.mono (by first | omega | (simp; done) | (simp; omega)))) | (refine Below.setCell ?_ (by first | omega | (simp; done) | (simp; omega)) _) | apply below_drewN | apply Below.drew | (refine Below.alloc ?_ (by first | omega | (simp; done) | (simp; omega)) _)))⟩

end Go.Proofs.YthpnkkbinffmkaaDoor
