/- Contracts: levels, volumes of lands (of the program, of the model). -/
import Derived.Test.YtcimigaimlojlaaLandC
namespace Go.Proofs.Ytcimigaimlojlaa
open Go.RowKit

theorem lv_dec (r c : Int) (xs : List Int) (y : Int) : LandOk r c xs → decide (lvl y) = decide (lvl y) := fun _ => rfl
theorem level_t (x : Int) (w : World) (h : -2000 ≤ x ∧ x ≤ 2000) : Calls Try.prog 69 #[.int .i64 x] w fun e w' => e = .returned (.bool true) ∧ w = w' := by
  go_enter Try.func69, Try.ntmps69
  go_wp2_with (first | (go_at_call 55; first | (refine (within_t _ _ _ _ (by omega)).mono ?_; rintro e w' ⟨rfl, rfl⟩) | (refine (within_f _ _ _ _ (by omega)).mono ?_; rintro e w' ⟨rfl, rfl⟩)))
  go_ret
  exact ⟨rfl, rfl⟩
theorem level_any (x : Int) (w : World) : Calls Try.prog 69 #[.int .i64 x] w fun e w' => e = .returned (.bool (decide (lvl x))) ∧ w = w' := by
  by_cases h : -2000 ≤ x ∧ x ≤ 2000
  · rw [show decide (lvl x) = true from decide_eq_true h]; exact level_t x w h
  · rw [show decide (lvl x) = false from decide_eq_false h]
    have h' : x < -2000 ∨ 2000 < x := by omega
    clear h
    go_enter Try.func69, Try.ntmps69
    go_wp2_with (first | (go_at_call 55; first | (refine (within_t _ _ _ _ (by omega)).mono ?_; rintro e w' ⟨rfl, rfl⟩) | (refine (within_f _ _ _ _ (by omega)).mono ?_; rintro e w' ⟨rfl, rfl⟩)))
    go_ret
    exact ⟨rfl, rfl⟩


theorem max_t (a b : Int) (w : World) : Calls Try.prog 57 #[.int .i64 a, .int .i64 b] w fun e w' => e = .returned (.int .i64 (max a b)) ∧ w = w' := by
  by_cases h : b < a
  · rw [show max a b = a by omega]
    go_enter Try.func57, Try.ntmps57
    go_wp2
    go_ret
    exact ⟨rfl, rfl⟩
  · rw [show max a b = b by omega]
    go_enter Try.func57, Try.ntmps57
    go_wp2
    go_ret
    exact ⟨rfl, rfl⟩

theorem vol_add (y : Int) (xs : List Int) (k : Nat) : vol y xs (k + 1) = vol y xs k + max 0 (y - xs.getD k 0) := rfl

set_option maxHeartbeats 800000 in
theorem l03Volume_t (b : Nat) (r c : Int) (A : Option Addr) (n k : Nat) (xs : List Int) (y : Int) (w : World) (hl : LandAt w b r c A n k) (ha : Rd w w.heap.size A n xs) (h : LandOk r c xs) (hy : lvl y) :
    Calls Try.prog 62 #[.pointer (some ⟨b, 0, none⟩), .int .i64 y] w fun e w' => e = .returned (.int .i64 (vol y xs n)) ∧ w = w' := by
  have hln := ha.1
  have hlen := h.len
  have HV := Lib.hid h.2.2.2
  have HY := Lib.hid hy
  have RA := Lib.hid ha
  obtain ⟨c0, c1, c2⟩ := hl
  obtain ⟨y1, y2⟩ := hy
  clear ha h
  go_enter Try.func62, Try.ntmps62
  go_wp2
  go_loop [5, 6] (fun t i => ∃ q : Nat, q ≤ n ∧ i = .int .i64 (q : Int) ∧ t = .int .i64 (vol y xs q)) (fun _ i => n - (intOf i).toNat)
  case atStart => exact ⟨0, by omega, rfl, rfl⟩
  case round =>
    obtain ⟨q, hq, rfl, rfl⟩ := hrel
    have hbd := vol_bd y xs q HY.out (fun j hj => HV.out j (by omega))
    by_cases hlt : q < n
    · obtain ⟨b, o, rfl, hbB, hc⟩ := RA.out.2 (by omega)
      have c3 := hc q hlt
      clear hc
      have E2 := Lib.hid (vol_add y xs q)
      have g := HV.out q (by omega)
      obtain ⟨x, hx⟩ : ∃ x, x = xs.getD q 0 := ⟨_, rfl⟩
      rw [← hx] at c3 g E2
      clear hx
      have m1 : 0 ≤ max 0 (y - x) := by omega
      have m2 : max 0 (y - x) ≤ 4000 := by omega
      go_wp2_with (go_at_call 57; refine (max_t _ _ _).mono ?_; rintro e w' ⟨rfl, rfl⟩)
      go_round
      case rel => exact ⟨q + 1, by omega, by go_num, by rw [E2.out]⟩
      case measure => simp [intOf]; omega
    · obtain rfl : q = n := by omega
      go_wp2
      go_ret
      exact ⟨rfl, rfl⟩

set_option maxHeartbeats 800000 in
theorem volumeBelow_t (r c : Int) (A : Option Addr) (n k : Nat) (xs : List Int) (y : Int) (w : World) (ha : Rd w w.heap.size A n xs) (h : LandOk r c xs) (hy : lvl y) :
    Calls Try.prog 67 #[.agg #[.int .i64 r, .int .i64 c, .slice A n k], .int .i64 y] w fun e w' => e = .returned (.int .i64 (vol y xs n)) ∧ Below w.heap.size w w' := by
  have hln := ha.1
  have hlen := h.len
  have HV := Lib.hid h.2.2.2
  have HY := Lib.hid hy
  have RA := Lib.hid ha
  obtain ⟨y1, y2⟩ := hy
  clear ha h
  go_enter Try.func67, Try.ntmps67
  go_wp2
  go_loop [5, 7, 11] (fun t _ i => ∃ q : Nat, q ≤ n ∧ i = .int .i64 (q : Int) ∧ t = .int .i64 (vol y xs q)) (fun _ _ i => n - (intOf i).toNat)
  case atStart => exact ⟨0, by omega, rfl, rfl⟩
  case round =>
    obtain ⟨q, hq, rfl, rfl⟩ := hrel
    have hbd := vol_bd y xs q HY.out (fun j hj => HV.out j (by omega))
    by_cases hlt : q < n
    · obtain ⟨b, o, rfl, hbB, hc⟩ := RA.out.2 (by omega)
      have c3 := hc q hlt
      clear hc
      have E2 := Lib.hid (vol_add y xs q)
      have g := HV.out q (by omega)
      obtain ⟨x, hx⟩ : ∃ x, x = xs.getD q 0 := ⟨_, rfl⟩
      rw [← hx] at c3 g E2
      clear hx
      by_cases hm : 0 < y - x
      · have E3 := Lib.hid (show max 0 (y - x) = y - x by omega)
        go_wp2
        go_round
        case rel => exact ⟨q + 1, by omega, by go_num, by rw [E2.out, E3.out]⟩
        case measure => simp [intOf]; omega
      · have E3 := Lib.hid (show max 0 (y - x) = 0 by omega)
        go_wp2
        go_round
        case rel => exact ⟨q + 1, by omega, by go_num, by rw [E2.out, E3.out, Int.add_zero]⟩
        case measure => simp [intOf]; omega
    · obtain rfl : q = n := by omega
      go_wp2
      go_ret
      exact ⟨rfl, (by repeat (first | assumption | exact Below.refl _ _ | (refine Below.setCell ?_ (by first | omega | (simp; done) | (simp; omega)) _) | apply below_drewN | apply Below.drew | (refine Below.alloc ?_ (by first | omega | (simp; done) | (simp; omega)) _)))⟩

end Go.Proofs.Ytcimigaimlojlaa
