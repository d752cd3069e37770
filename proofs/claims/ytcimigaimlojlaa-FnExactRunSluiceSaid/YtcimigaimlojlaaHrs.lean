/- Levels on both sides, hour by hour: whether they are valid (both sides). -/
import Derived.Test.YtcimigaimlojlaaSluC
import Derived.Test.YtcimigaimlojlaaAw
namespace Go.Proofs.Ytcimigaimlojlaa
open Go.RowKit

def hrOk (n m : Nat) (xs ys : List Int) : Prop := (n = m ∧ n ≤ 200) ∧ allIn (-2000) 2000 n xs ∧ allIn (-2000) 2000 m ys
instance (n m : Nat) (xs ys : List Int) : Decidable (hrOk n m xs ys) := by unfold hrOk; exact inferInstance

set_option maxHeartbeats 1600000 in
theorem areHours_any (A B : Option Addr) (n c m d : Nat) (xs ys : List Int) (w : World) (hn : n ≤ 1048576) (hm : m ≤ 1048576) (ha : Rd w w.heap.size A n xs) (hb : Rd w w.heap.size B m ys) (v : Bool) (hv : v = decide (hrOk n m xs ys)) :
    Calls Try.prog 53 #[.slice A n c, .slice B m d] w fun e w' => e = .returned (.bool v) ∧ Below w.heap.size w w' := by
  have HA := Lib.hid ha
  have HB := Lib.hid hb
  clear ha hb
  by_cases h1 : n = m
  · have e1 : ((n : Int) == (m : Int)) = true := by simp [h1]
    by_cases h2 : n ≤ 200
    · have e2 : decide ((n : Int) ≤ 200) = true := by simp; omega
      by_cases h3 : allIn (-2000) 2000 n xs
      · have H3 := Lib.hid h3
        obtain ⟨u, hu⟩ : ∃ u, u = decide (allIn (-2000) 2000 m ys) := ⟨_, rfl⟩
        have hvu : v = u := by rw [hv, hu]; exact decide_eq_decide.2 ⟨fun h => h.2.2, fun h => ⟨⟨h1, h2⟩, h3, h⟩⟩
        subst hvu
        have HU := Lib.hid (show v = true ↔ allIn (-2000) 2000 m ys by rw [hu, decide_eq_true_iff])
        clear hv hu h1 h2 h3
        go_enter Try.func53, Try.ntmps53
        go_wp2_with (first | (go_at_call 42; have := tok; refine (areLevels_any _ _ _ ys _ hm ((HB.out.below d1).mono s1) v HU.out).mono ?_; rintro e2 W2 ⟨rfl, b2⟩) | (go_at_call 42; refine (areLevels_any _ _ _ xs _ hn HA.out true ⟨fun _ => H3.out, fun _ => rfl⟩).mono ?_; rintro e1 W1 ⟨rfl, b1⟩; have d1 : Below w.heap.size w W1 := (by repeat (first | assumption | exact Below.refl _ _ | (refine Below.trans ?_ (b1.mono (by first | omega | (simp; done) | (simp; omega)))) | (refine Below.setCell ?_ (by first | omega | (simp; done) | (simp; omega)) _) | apply below_drewN | apply Below.drew | (refine Below.alloc ?_ (by first | omega | (simp; done) | (simp; omega)) _))); have s1 := b1.size; have tok : True := trivial))
        go_ret
        exact ⟨rfl, (by repeat (first | assumption | exact Below.refl _ _ | (refine Below.trans ?_ (b2.mono (by first | omega | (simp; done) | (simp; omega)))) | (refine Below.trans ?_ (d1.mono (by first | omega | (simp; done) | (simp; omega)))) | (refine Below.setCell ?_ (by first | omega | (simp; done) | (simp; omega)) _) | apply below_drewN | apply Below.drew | (refine Below.alloc ?_ (by first | omega | (simp; done) | (simp; omega)) _)))⟩
      · have H3 := Lib.hid h3
        obtain rfl : v = false := by rw [hv]; exact decide_eq_false (fun h => h3 h.2.1)
        clear hv h1 h2 h3
        go_enter Try.func53, Try.ntmps53
        go_wp2_with (go_at_call 42; refine (areLevels_any _ _ _ xs _ hn HA.out false ⟨fun h => by simp at h, fun h => absurd h H3.out⟩).mono ?_; rintro e1 W1 ⟨rfl, b1⟩)
        go_ret
        exact ⟨rfl, (by repeat (first | assumption | exact Below.refl _ _ | (refine Below.trans ?_ (b1.mono (by first | omega | (simp; done) | (simp; omega)))) | (refine Below.setCell ?_ (by first | omega | (simp; done) | (simp; omega)) _) | apply below_drewN | apply Below.drew | (refine Below.alloc ?_ (by first | omega | (simp; done) | (simp; omega)) _)))⟩
    · have e2 : decide ((n : Int) ≤ 200) = false := by simp; omega
      obtain rfl : v = false := by rw [hv]; exact decide_eq_false (fun h => h2 h.1.2)
      clear hv h1 h2
      go_enter Try.func53, Try.ntmps53
      go_wp2
      go_ret
      exact ⟨rfl, Below.refl _ _⟩
  · have e1 : ((n : Int) == (m : Int)) = false := by simp; omega
    obtain rfl : v = false := by rw [hv]; exact decide_eq_false (fun h => h1 h.1.1)
    clear hv h1
    go_enter Try.func53, Try.ntmps53
    go_wp2
    go_ret
    exact ⟨rfl, Below.refl _ _⟩

set_option maxHeartbeats 1600000 in
theorem l09Levels_t (A B : Option Addr) (n c m d : Nat) (xs ys : List Int) (w : World) (hn : n ≤ 1048576) (hm : m ≤ 1048576) (ha : Rd w w.heap.size A n xs) (hb : Rd w w.heap.size B m ys) (C : Int) (hC : C = if hrOk n m xs ys then 0 else 2) :
    Calls Try.prog 73 #[.slice A n c, .slice B m d] w fun e w' => e = .returned (.int .i64 C) ∧ w = w' := by
  have HA := Lib.hid ha.2
  have HB := Lib.hid hb.2
  have HC := Lib.hid hC
  clear ha hb hC
  by_cases h1 : n = m
  · subst h1
    have e1 : ((n : Int) != (n : Int)) = false := by simp
    by_cases h2 : n ≤ 200
    · have e2 : decide ((n : Int) > 200) = false := by simp; omega
      have H2 := Lib.hid h2
      clear h2
      go_enter Try.func73, Try.ntmps73
      go_wp2
      go_loop [5] (fun i => ∃ k : Nat, k ≤ n ∧ i = .int .i64 (k : Int) ∧ Hid (∀ j, j < k → slv (xs.getD j 0) ∧ slv (ys.getD j 0))) (fun i => n - (intOf i).toNat)
      case atStart => exact ⟨0, by omega, rfl, fun j hj => absurd hj (by omega)⟩
      case round =>
        obtain ⟨k, hk, rfl, hr⟩ := hrel
        by_cases hlt : k < n
        · obtain ⟨ab, o, rfl, hbB, hc⟩ := HA.out (by omega)
          obtain ⟨ab', o', rfl, hbB', hc'⟩ := HB.out (by omega)
          have c1 := hc k hlt
          have c2 := hc' k hlt
          clear hc hc'
          obtain ⟨x, hx⟩ : ∃ x, x = xs.getD k 0 := ⟨_, rfl⟩
          obtain ⟨y, hy⟩ : ∃ y, y = ys.getD k 0 := ⟨_, rfl⟩
          rw [← hx] at c1
          rw [← hy] at c2
          have HX := Lib.hid hx
          have HY := Lib.hid hy
          clear hx hy
          by_cases hg : slv x
          · have HG := Lib.hid (show true = decide (slv x) from (decide_eq_true hg).symm)
            by_cases hq : slv y
            · have HQ := Lib.hid (show true = decide (slv y) from (decide_eq_true hq).symm)
              go_wp2_with (first | (go_at_call 47; have := tok; refine (slvS_any y _ _ HQ.out).mono ?_; rintro e3 w3 ⟨rfl, rfl⟩) | (go_at_call 47; refine (slvS_any x _ _ HG.out).mono ?_; rintro e2 w2 ⟨rfl, rfl⟩; have tok : True := trivial))
              go_round
              case rel => exact ⟨k + 1, by omega, by go_num, fun j hj => by
                by_cases e : j = k
                · subst e; rw [← HX.out, ← HY.out]; exact ⟨hg, hq⟩
                · exact hr.out j (by omega)⟩
              case measure => simp [intOf]; omega
            · have HQ := Lib.hid (show false = decide (slv y) from (decide_eq_false hq).symm)
              have HF := Lib.hid (show C = 2 by rw [HC.out]; exact if_neg (fun h => hq (by rw [HY.out]; exact h.2.2 k hlt)))
              clear hq hg
              go_wp2_with (first | (go_at_call 47; have := tok; refine (slvS_any y _ _ HQ.out).mono ?_; rintro e3 w3 ⟨rfl, rfl⟩) | (go_at_call 47; refine (slvS_any x _ _ HG.out).mono ?_; rintro e2 w2 ⟨rfl, rfl⟩; have tok : True := trivial))
              go_ret
              exact ⟨ret_int HF.out.symm, rfl⟩
          · have HG := Lib.hid (show false = decide (slv x) from (decide_eq_false hg).symm)
            have HF := Lib.hid (show C = 2 by rw [HC.out]; exact if_neg (fun h => hg (by rw [HX.out]; exact h.2.1 k hlt)))
            clear hg
            go_wp2_with (go_at_call 47; refine (slvS_any x _ _ HG.out).mono ?_; rintro e2 w2 ⟨rfl, rfl⟩)
            go_ret
            exact ⟨ret_int HF.out.symm, rfl⟩
        · obtain rfl : k = n := by omega
          have HF := Lib.hid (show C = 0 by rw [HC.out]; exact if_pos ⟨⟨rfl, H2.out⟩, fun j hj => (hr.out j hj).1, fun j hj => (hr.out j hj).2⟩)
          go_wp2
          go_ret
          exact ⟨ret_int HF.out.symm, rfl⟩
    · have e2 : decide ((n : Int) > 200) = true := by simp; omega
      have HF := Lib.hid (show C = 2 by rw [HC.out]; exact if_neg (fun h => h2 h.1.2))
      clear h2
      go_enter Try.func73, Try.ntmps73
      go_wp2
      go_ret
      exact ⟨ret_int HF.out.symm, rfl⟩
  · have e1 : ((n : Int) != (m : Int)) = true := by simp; omega
    have HF := Lib.hid (show C = 2 by rw [HC.out]; exact if_neg (fun h => h1 h.1.1))
    clear h1
    go_enter Try.func73, Try.ntmps73
    go_wp2
    go_ret
    exact ⟨ret_int HF.out.symm, rfl⟩

set_option maxHeartbeats 1600000 in
theorem l09Series_t (wd sl : Int) (A B : Option Addr) (n c m d : Nat) (xs ys : List Int) (w : World) (hn : n ≤ 1048576) (hm : m ≤ 1048576) (ha : Rd w w.heap.size A n xs) (hb : Rd w w.heap.size B m ys) (C : Int) (hC : C = sc3 (slOk wd sl) (hrOk n m xs ys)) :
    Calls Try.prog 52 #[.agg #[.int .i64 wd, .int .i64 sl], .slice A n c, .slice B m d] w fun e w' => e = .returned (.int .i64 C) ∧ Below w.heap.size w w' := by
  have HA := Lib.hid ha
  have HB := Lib.hid hb
  clear ha hb
  by_cases h : slOk wd sl
  · have HV := Lib.hid (show true = decide (slOk wd sl) from (decide_eq_true h).symm)
    have HC := Lib.hid (show C = if hrOk n m xs ys then 0 else 2 by rw [hC]; exact if_pos h)
    clear h hC
    go_enter Try.func52, Try.ntmps52
    go_wp2_with (first | (go_at_call 44; refine (sluS_any _ _ _ _ HV.out).mono ?_; rintro e1 W1 ⟨rfl, b1⟩; have d1 : Below w.heap.size w W1 := (by repeat (first | assumption | exact Below.refl _ _ | (refine Below.trans ?_ (b1.mono (by first | omega | (simp; done) | (simp; omega)))) | (refine Below.setCell ?_ (by first | omega | (simp; done) | (simp; omega)) _) | apply below_drewN | apply Below.drew | (refine Below.alloc ?_ (by first | omega | (simp; done) | (simp; omega)) _)))) | (go_at_call 73; refine (l09Levels_t _ _ _ _ _ _ xs ys _ hn hm ((HA.out.below d1).mono d1.size) ((HB.out.below d1).mono d1.size) C HC.out).mono ?_; rintro e2 w2 ⟨rfl, rfl⟩))
    go_ret
    exact ⟨rfl, d1⟩
  · have HV := Lib.hid (show false = decide (slOk wd sl) from (decide_eq_false h).symm)
    have HC := Lib.hid (show C = 1 by rw [hC]; exact if_neg h)
    clear h hC
    go_enter Try.func52, Try.ntmps52
    go_wp2_with (first | (go_at_call 44; refine (sluS_any _ _ _ _ HV.out).mono ?_; rintro e1 W1 ⟨rfl, b1⟩; have d1 : Below w.heap.size w W1 := (by repeat (first | assumption | exact Below.refl _ _ | (refine Below.trans ?_ (b1.mono (by first | omega | (simp; done) | (simp; omega)))) | (refine Below.setCell ?_ (by first | omega | (simp; done) | (simp; omega)) _) | apply below_drewN | apply Below.drew | (refine Below.alloc ?_ (by first | omega | (simp; done) | (simp; omega)) _)))))
    go_ret
    exact ⟨ret_int HC.out.symm, d1⟩

end Go.Proofs.Ytcimigaimlojlaa
