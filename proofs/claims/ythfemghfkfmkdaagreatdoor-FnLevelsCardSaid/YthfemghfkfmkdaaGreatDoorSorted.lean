/- The model's sorting of numbers. -/
import Derived.Test.YthfemghfkfmkdaaGreatDoorSortP
import Derived.Test.YthfemghfkfmkdaaGreatDoorOwnS
import Derived.StillTailTactics
namespace Go.Proofs.YthfemghfkfmkdaaGreatDoor
open Go.RowKit

theorem Wr.at' {w : World} {lo b o n q : Nat} {xs : List Int} (h : Wr w lo (some ⟨b, o, none⟩) n xs) (hq : q < n) : w.cell? ⟨b, o + q, none⟩ = some (.int .i64 (xs.getD q 0)) ∧ w.frozen? ⟨b, o + q, none⟩ = false := by
  obtain ⟨b', o', e, _, _, hc⟩ := h.2 (by omega)
  injection e with e
  injection e with e1 e2
  subst e1
  subst e2
  exact hc q hq

set_option maxRecDepth 100000 in
set_option maxHeartbeats 3200000 in
theorem l02Sorted_t (A : Option Addr) (n c : Nat) (xs : List Int) (w : World) (hn : n ≤ 1048576) (h0 : 0 < n) (ha : Rd w w.heap.size A n xs) :
    Calls Tryz.prog 69 #[.slice A n c] w fun e w' => ∃ B d, e = .returned (.slice B n d) ∧ Below w.heap.size w w' ∧ Wr w' w.heap.size B n (srt xs) := by
  have hln := ha.1
  have HA := Lib.hid ha
  clear ha
  go_enter Tryz.func69, Tryz.ntmps69
  go_wp2_with (go_at_call 83; refine (l00Own_t _ _ _ xs _ hn HA.out).mono ?_; rintro e1 W1 ⟨B, d, rfl, b1, x1⟩)
  obtain ⟨b, o, rfl, hb0, hb1, hcx⟩ := x1.2 h0
  clear hcx
  go_loopw [4, 5, 6] (fun i _ _ wr => ∃ (q : Nat) (l : List Int), q + 1 ≤ n ∧ i = .int .i64 ((q + 1 : Nat) : Int) ∧ Below w.heap.size w wr ∧ Wr wr w.heap.size (some ⟨b, o, none⟩) n l ∧ Hid (l.Perm xs ∧ SortedTo l (q + 1))) (fun i _ _ _ => n - (intOf i).toNat)
  case atStart => exact ⟨0, xs, by omega, rfl, b1, x1, List.Perm.refl _, fun a b h1 h2 => by omega⟩
  case round =>
    obtain ⟨q, l, hq, rfl, hb, hw, hp⟩ := hrel
    by_cases hlt : q + 1 < n
    · go_wp2
      go_loopw [5, 6] (fun k _ wr2 => ∃ (p : Nat) (m : List Int), p ≤ q + 1 ∧ k = .int .i64 (p : Int) ∧ Below w.heap.size w wr2 ∧ Wr wr2 w.heap.size (some ⟨b, o, none⟩) n m ∧ Hid (m.Perm xs ∧ Near1 m p (q + 1))) (fun k _ _ => (intOf k).toNat)
      case atStart => exact ⟨q + 1, l, by omega, rfl, hb, hw, hp.out.1, hp.out.2.near⟩
      case round =>
        obtain ⟨p, m, hpq, rfl, hb2, hw2, hm⟩ := hrel
        by_cases hp0 : 0 < p
        · have hml := hw2.1
          obtain ⟨c1, f1⟩ := hw2.at' (q := p) (by omega)
          obtain ⟨c2, f2⟩ := hw2.at' (q := p - 1) (by omega)
          have HX := Lib.hid (show xch m p = (m.set p (m.getD (p - 1) 0)).set (p - 1) (m.getD p 0) from rfl)
          have HP := Lib.hid (xch_perm m p hp0 (by omega))
          have HS := Lib.hid (hm.out.2.step hp0 (by omega))
          have HD := Lib.hid (hm.out.2.done)
          obtain ⟨x, hx⟩ : ∃ x, x = m.getD p 0 := ⟨_, rfl⟩
          obtain ⟨y, hy⟩ : ∃ x, x = m.getD (p - 1) 0 := ⟨_, rfl⟩
          rw [← hx] at c1 HX HS HD
          rw [← hy] at c2 HX HS HD
          clear hx hy
          have e1 : ((p : Int) - 1).toNat = p - 1 := by omega
          by_cases ht : x < y
          · go_wp2
            go_quiet (fail)
            go_wp2
            go_roundw
            case rel => exact ⟨p - 1, xch m p, by omega, by rw [show ((p - 1 : Nat) : Int) = (p : Int) - 1 by omega], (by repeat (first | assumption | exact Below.refl _ _ | (refine Below.trans ?_ (hb2.mono (by first | omega | (simp; done) | (simp; omega)))) | (refine Below.setCell ?_ (by first | omega | (simp; done) | (simp; omega)) _) | apply below_drewN | apply Below.drew | (refine Below.alloc ?_ (by first | omega | (simp; done) | (simp; omega)) _))), by rw [HX.out]; exact (((hw2.drewN _).put (by omega) y).put (i := p - 1) (by omega) x), HP.out.trans hm.out.1, HS.out ht hpq⟩
            case measure => simp [intOf]; omega
          · have HE := Lib.hid (HD.out (.inr (by omega)) (by omega))
            go_wp2
            go_quiet (fail)
            go_wp2
            go_roundw
            case rel => exact ⟨q + 1, m, by omega, by go_num, (by repeat (first | assumption | exact Below.refl _ _ | (refine Below.trans ?_ (hb2.mono (by first | omega | (simp; done) | (simp; omega)))) | (refine Below.setCell ?_ (by first | omega | (simp; done) | (simp; omega)) _) | apply below_drewN | apply Below.drew | (refine Below.alloc ?_ (by first | omega | (simp; done) | (simp; omega)) _))), hw2, hm.out.1, HE.out⟩
            case measure => simp [intOf]; omega
        · obtain rfl : p = 0 := by omega
          have HE := Lib.hid (hm.out.2.done (.inl rfl) (by omega))
          go_wp2
          go_quiet (fail)
          go_wp2
          go_roundw
          case rel => exact ⟨q + 1, m, by omega, by go_num, (by repeat (first | assumption | exact Below.refl _ _ | (refine Below.trans ?_ (hb2.mono (by first | omega | (simp; done) | (simp; omega)))) | (refine Below.setCell ?_ (by first | omega | (simp; done) | (simp; omega)) _) | apply below_drewN | apply Below.drew | (refine Below.alloc ?_ (by first | omega | (simp; done) | (simp; omega)) _))), hw2, hm.out.1, HE.out⟩
          case measure => simp [intOf]; omega
    · have hq' : q + 1 = n := by omega
      have HE := Lib.hid (srt_unique hp.out.1 (SortedTo.all (by rw [hw.1, ← hq']; exact hp.out.2)))
      clear hq'
      go_wp2
      go_ret
      exact ⟨_, d, rfl, hb, by rw [← HE.out]; exact hw⟩

set_option maxRecDepth 100000 in
set_option maxHeartbeats 3200000 in
theorem l02Middle_t (A : Option Addr) (n c : Nat) (xs : List Int) (w : World) (hn : n ≤ 1048576) (h0 : 0 < n) (ha : Rd w w.heap.size A n xs) :
    Calls Tryz.prog 39 #[.slice A n c] w fun e w' => e = .returned (.int .i64 ((srt xs).getD ((n - 1) / 2) 0)) ∧ Below w.heap.size w w' := by
  have HA := Lib.hid ha
  clear ha
  have e1 : (((n : Int) - 1) / 2).toNat = (n - 1) / 2 := by omega
  go_enter Tryz.func39, Tryz.ntmps39
  go_wp2_with (go_at_call 69; refine (l02Sorted_t _ _ _ xs _ hn h0 HA.out).mono ?_; rintro e1 W1 ⟨B, d, rfl, b1, x1⟩; obtain ⟨b, o, rfl, _, _, hc⟩ := x1.2 h0; have c1 := (hc ((n - 1) / 2) (by omega)).1; clear hc)
  go_ret
  exact ⟨rfl, b1⟩

end Go.Proofs.YthfemghfkfmkdaaGreatDoor
