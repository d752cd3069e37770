/- allAre at records of type Water. -/
import Derived.Test.YtfpfmfhhcgafcabDoorWatC
namespace Go.Proofs.YtfpfmfhhcgafcabDoor
open Go.RowKit

def alWater (n : Nat) (xs : List RWater) : Prop := ∀ j, j < n → waOk (xs.getD j zWater).f0 (xs.getD j zWater).f1 (xs.getD j zWater).f2 (xs.getD j zWater).f3 (xs.getD j zWater).f4
instance (n : Nat) (xs : List RWater) : Decidable (alWater n xs) := by unfold alWater; exact inferInstance

set_option maxHeartbeats 800000 in
theorem alWater_no (f0 f1 f2 f3 f4 : Int) (B3 : Nat) (w : World) (c3 : w.cell? ⟨B3, 0, none⟩ = some (.func (.func 42) #[] #[])) (h3 : B3 < w.heap.size) (v : Bool) (hv : v = decide (¬ waOk (⟨f0, f1, f2, f3, f4⟩ : RWater).f0 (⟨f0, f1, f2, f3, f4⟩ : RWater).f1 (⟨f0, f1, f2, f3, f4⟩ : RWater).f2 (⟨f0, f1, f2, f3, f4⟩ : RWater).f3 (⟨f0, f1, f2, f3, f4⟩ : RWater).f4)) :
    Calls Tryd.prog 54 #[.agg #[.int .i64 f0, .int .i64 f1, .int .i64 f2, .int .i64 f3, .int .i64 f4], .pointer (some ⟨B3, 0, none⟩)] w fun e w' => e = .returned (.bool v) ∧ Below w.heap.size w w' := by
  have hnot : ∀ (x : Bool) (w : World), (Op.unary .not (.bool x)).run Tryd.prog w = .ok (.bool (!x)) w := fun _ _ => rfl
  obtain ⟨u, hu⟩ : ∃ u, u = decide (waOk (⟨f0, f1, f2, f3, f4⟩ : RWater).f0 (⟨f0, f1, f2, f3, f4⟩ : RWater).f1 (⟨f0, f1, f2, f3, f4⟩ : RWater).f2 (⟨f0, f1, f2, f3, f4⟩ : RWater).f3 (⟨f0, f1, f2, f3, f4⟩ : RWater).f4) := ⟨_, rfl⟩
  have HU := Lib.hid hu
  have HV := Lib.hid (show v = !u by rw [hv, hu, decide_not])
  have c3' : (w.alloc (.cells #[.int .i64 f0, .int .i64 f1, .int .i64 f2, .int .i64 f3, .int .i64 f4] 47)).cell? ⟨B3, 0, none⟩ = some (.func (.func 42) #[] #[]) := (((Below.refl w.heap.size w).alloc (Nat.le_refl _) _).cell (p := ⟨B3, 0, none⟩) h3).trans c3
  clear hv hu
  go_enter Tryd.func54, Tryd.ntmps54
  go_wp2_with (go_at_call 42; refine (waI_any _ _ _ _ _ _ u HU.out).mono ?_; rintro e1 w1 ⟨rfl, b1⟩)
  go_ret
  exact ⟨ret_bool HV.out.symm, (by repeat (first | assumption | exact Below.refl _ _ | (refine Below.trans ?_ (b1.mono (by first | omega | (simp; done) | (simp; omega)))) | (refine Below.setCell ?_ (by first | omega | (simp; done) | (simp; omega)) _) | apply below_drewN | apply Below.drew | (refine Below.alloc ?_ (by first | omega | (simp; done) | (simp; omega)) _)))⟩

set_option maxHeartbeats 800000 in
theorem alWater_ix (B3 : Nat) (A : Option Addr) (n c : Nat) (xs : List RWater) (w : World) (hn : n ≤ 1048576) (ha : Rd_Water w w.heap.size A n xs) (c3 : w.cell? ⟨B3, 0, none⟩ = some (.func (.func 42) #[] #[])) (h3 : B3 < w.heap.size) (b : Bool) (hb : b = true ↔ alWater n xs) :
    Calls Tryd.prog 62 #[.slice A n c, .func (.func 54) #[] #[.pointer (some ⟨B3, 0, none⟩)]] w fun e w' => ∃ k : Int, e = .returned (.int .i64 k) ∧ Below w.heap.size w w' ∧ decide (0 ≤ k) = !b := by
  have HA := Lib.hid ha
  have HB := Lib.hid hb
  have C3 := Lib.hid c3
  clear ha hb c3
  go_enter Tryd.func62, Tryd.ntmps62
  go_wp2
  go_loopw [5, 8] (fun _ i wr => ∃ k : Nat, k ≤ n ∧ i = .int .i64 (k : Int) ∧ Below w.heap.size w wr ∧ Hid (∀ j, j < k → waOk (xs.getD j zWater).f0 (xs.getD j zWater).f1 (xs.getD j zWater).f2 (xs.getD j zWater).f3 (xs.getD j zWater).f4)) (fun _ i _ => n - (intOf i).toNat)
  case atStart => exact ⟨0, by omega, rfl, Below.refl _ _, fun j hj => absurd hj (by omega)⟩
  case round =>
    obtain ⟨k, hk, rfl, hbw, hr⟩ := hrel
    have hzw := hbw.size
    have c3w := (hbw.cell (p := ⟨B3, 0, none⟩) h3).trans C3.out
    have C3W := Lib.hid c3w
    clear c3w
    by_cases hlt : k < n
    · obtain ⟨ab, o, rfl, hbB, hc⟩ := (HA.out.below hbw).at (by omega)
      have p := hc k hlt
      clear hc
      obtain ⟨x, hx⟩ : ∃ x, x = xs.getD k zWater := ⟨_, rfl⟩
      rw [← hx] at p
      have HX := Lib.hid hx
      clear hx
      obtain ⟨x0, x1, x2, x3, x4⟩ := x
      obtain ⟨p0, p1, p2, p3, p4⟩ := p
      simp only at p0 p1 p2 p3 p4
      by_cases hg : waOk (⟨x0, x1, x2, x3, x4⟩ : RWater).f0 (⟨x0, x1, x2, x3, x4⟩ : RWater).f1 (⟨x0, x1, x2, x3, x4⟩ : RWater).f2 (⟨x0, x1, x2, x3, x4⟩ : RWater).f3 (⟨x0, x1, x2, x3, x4⟩ : RWater).f4
      · have HG := Lib.hid (show false = decide (¬ waOk (⟨x0, x1, x2, x3, x4⟩ : RWater).f0 (⟨x0, x1, x2, x3, x4⟩ : RWater).f1 (⟨x0, x1, x2, x3, x4⟩ : RWater).f2 (⟨x0, x1, x2, x3, x4⟩ : RWater).f3 (⟨x0, x1, x2, x3, x4⟩ : RWater).f4) from (decide_eq_false (fun g => g hg)).symm)
        have HG2 := Lib.hid hg
        clear hg
        go_wp2_with (go_at_call 54; refine (alWater_no _ _ _ _ _ B3 _ C3W.out (by omega) false HG.out).mono ?_; rintro e w' ⟨rfl, b1⟩)
        go_roundw
        case rel => exact ⟨k + 1, by omega, by go_num, hbw.trans (b1.mono hzw), fun j hj => by
          by_cases e : j = k
          · subst e; rw [← HX.out]; exact HG2.out
          · exact hr.out j (by omega)⟩
        case measure => simp [intOf]; omega
      · have HG := Lib.hid (show true = decide (¬ waOk (⟨x0, x1, x2, x3, x4⟩ : RWater).f0 (⟨x0, x1, x2, x3, x4⟩ : RWater).f1 (⟨x0, x1, x2, x3, x4⟩ : RWater).f2 (⟨x0, x1, x2, x3, x4⟩ : RWater).f3 (⟨x0, x1, x2, x3, x4⟩ : RWater).f4) from (decide_eq_true hg).symm)
        have hbf : b = false := by
          cases hb : b
          · rfl
          · have := (HB.out.1 hb) k hlt
            rw [← HX.out] at this
            exact absurd this hg
        have HF := Lib.hid hbf
        clear hbf hg
        go_wp2_with (go_at_call 54; refine (alWater_no _ _ _ _ _ B3 _ C3W.out (by omega) true HG.out).mono ?_; rintro e w' ⟨rfl, b1⟩)
        go_ret
        exact ⟨(k : Int), rfl, hbw.trans (b1.mono hzw), by rw [HF.out]; simp⟩
    · obtain rfl : k = n := by omega
      have HT := Lib.hid (HB.out.2 hr.out)
      go_wp2
      go_ret
      exact ⟨-1, rfl, hbw, by rw [HT.out]; simp⟩

theorem alWater_has (B3 : Nat) (A : Option Addr) (n c : Nat) (xs : List RWater) (w : World) (hn : n ≤ 1048576) (ha : Rd_Water w w.heap.size A n xs) (c3 : w.cell? ⟨B3, 0, none⟩ = some (.func (.func 42) #[] #[])) (h3 : B3 < w.heap.size) (b : Bool) (hb : b = true ↔ alWater n xs) :
    Calls Tryd.prog 53 #[.slice A n c, .func (.func 54) #[] #[.pointer (some ⟨B3, 0, none⟩)]] w fun e w' => e = .returned (.bool !b) ∧ Below w.heap.size w w' := by
  have HA := Lib.hid (alWater_ix B3 A n c xs w hn ha c3 h3 b hb)
  clear ha hb c3
  go_enter Tryd.func53, Tryd.ntmps53
  go_wp2_with (go_at_call 62; refine HA.out.mono ?_; rintro e1 w1 ⟨k, rfl, b1, hk⟩; have HK := Lib.hid hk; clear hk)
  go_ret
  exact ⟨ret_bool HK.out, b1⟩

theorem alWater_all (A : Option Addr) (n c : Nat) (xs : List RWater) (w : World) (hn : n ≤ 1048576) (ha : Rd_Water w w.heap.size A n xs) (b : Bool) (hb : b = true ↔ alWater n xs) :
    Calls Tryd.prog 41 #[.slice A n c, .func (.func 42) #[] #[]] w fun e w' => e = .returned (.bool b) ∧ Below w.heap.size w w' := by
  have HA := Lib.hid ha
  have HB := Lib.hid hb
  have hnot : ∀ (x : Bool) (w : World), (Op.unary .not (.bool x)).run Tryd.prog w = .ok (.bool (!x)) w := fun _ _ => rfl
  have hmf : ∀ (fn : Fn) (first cap : Array Value) (w : World), (Instr.makeFunc fn first cap).run Tryd.prog w = .ok (.func fn first cap) w := fun _ _ _ _ => rfl
  clear ha hb
  go_enter Tryd.func41, Tryd.ntmps41
  go_wp2_with (go_at_call 53; refine (alWater_has w.heap.size _ _ _ xs _ hn ((HA.out.below (by repeat (first | assumption | exact Below.refl _ _ | (refine Below.setCell ?_ (by first | omega | (simp; done) | (simp; omega)) _) | apply below_drewN | apply Below.drew | (refine Below.alloc ?_ (by first | omega | (simp; done) | (simp; omega)) _)))).mono (by first | omega | (simp; done) | (simp; omega))) (by simp) (by simp) b HB.out).mono ?_; rintro e1 w1 ⟨rfl, b1⟩)
  go_ret
  exact ⟨by simp, (by repeat (first | assumption | exact Below.refl _ _ | (refine Below.trans ?_ (b1.mono (by first | omega | (simp; done) | (simp; omega)))) | (refine Below.setCell ?_ (by first | omega | (simp; done) | (simp; omega)) _) | apply below_drewN | apply Below.drew | (refine Below.alloc ?_ (by first | omega | (simp; done) | (simp; omega)) _)))⟩

end Go.Proofs.YtfpfmfhhcgafcabDoor
