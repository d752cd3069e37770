/- allAre at records of type Section. -/
import Derived.Test.YticbnahndidplaaDoorSecV
namespace Go.Proofs.YticbnahndidplaaDoor
open Go.RowKit

def alSection (n : Nat) (xs : List RSection) : Prop := ∀ j, j < n → secOk (xs.getD j zSection)
instance (n : Nat) (xs : List RSection) : Decidable (alSection n xs) := by unfold alSection; exact inferInstance

set_option maxHeartbeats 800000 in
theorem alSection_no (f0 f1 : Int) (B3 : Nat) (w : World) (c3 : w.cell? ⟨B3, 0, none⟩ = some (.func (.func 89) #[] #[])) (h3 : B3 < w.heap.size) (v : Bool) (hv : v = decide (¬ secOk (⟨f0, f1⟩ : RSection))) :
    Calls Tryd.prog 102 #[.agg #[.int .i64 f0, .int .i64 f1], .pointer (some ⟨B3, 0, none⟩)] w fun e w' => e = .returned (.bool v) ∧ Below w.heap.size w w' := by
  have hnot : ∀ (x : Bool) (w : World), (Op.unary .not (.bool x)).run Tryd.prog w = .ok (.bool (!x)) w := fun _ _ => rfl
  obtain ⟨u, hu⟩ : ∃ u, u = decide (secOk (⟨f0, f1⟩ : RSection)) := ⟨_, rfl⟩
  have HU := Lib.hid hu
  have HV := Lib.hid (show v = !u by rw [hv, hu, decide_not])
  have c3' : (w.alloc (.cells #[.int .i64 f0, .int .i64 f1] 62)).cell? ⟨B3, 0, none⟩ = some (.func (.func 89) #[] #[]) := (((Below.refl w.heap.size w).alloc (Nat.le_refl _) _).cell (p := ⟨B3, 0, none⟩) h3).trans c3
  clear hv hu
  go_enter Tryd.func102, Tryd.ntmps102
  go_wp2_with (go_at_call 89; refine (secV_any _ _ _ u HU.out).mono ?_; rintro e1 w1 ⟨rfl, b1⟩)
  go_ret
  exact ⟨ret_bool HV.out.symm, (by repeat (first | assumption | exact Below.refl _ _ | (refine Below.trans ?_ (b1.mono (by first | omega | (simp; done) | (simp; omega)))) | (refine Below.setCell ?_ (by first | omega | (simp; done) | (simp; omega)) _) | apply below_drewN | apply Below.drew | (refine Below.alloc ?_ (by first | omega | (simp; done) | (simp; omega)) _)))⟩

set_option maxHeartbeats 800000 in
theorem alSection_ix (B3 : Nat) (A : Option Addr) (n c : Nat) (xs : List RSection) (w : World) (hn : n ≤ 1048576) (ha : Rd_Section w w.heap.size A n xs) (c3 : w.cell? ⟨B3, 0, none⟩ = some (.func (.func 89) #[] #[])) (h3 : B3 < w.heap.size) (b : Bool) (hb : b = true ↔ alSection n xs) :
    Calls Tryd.prog 120 #[.slice A n c, .func (.func 102) #[] #[.pointer (some ⟨B3, 0, none⟩)]] w fun e w' => ∃ k : Int, e = .returned (.int .i64 k) ∧ Below w.heap.size w w' ∧ decide (0 ≤ k) = !b := by
  have HA := Lib.hid ha
  have HB := Lib.hid hb
  have C3 := Lib.hid c3
  clear ha hb c3
  go_enter Tryd.func120, Tryd.ntmps120
  go_wp2
  go_loopw [5, 8] (fun _ i wr => ∃ k : Nat, k ≤ n ∧ i = .int .i64 (k : Int) ∧ Below w.heap.size w wr ∧ Hid (∀ j, j < k → secOk (xs.getD j zSection))) (fun _ i _ => n - (intOf i).toNat)
  case atStart => exact ⟨0, by omega, rfl, Below.refl _ _, fun j hj => absurd hj (by omega)⟩
  case round =>
    obtain ⟨k, hk, rfl, hbw, hr⟩ := hrel
    have hzw := hbw.size
    have c3w := (hbw.cell (p := ⟨B3, 0, none⟩) h3).trans C3.out
    have C3W := Lib.hid c3w
    clear c3w
    by_cases hlt : k < n
    · obtain ⟨ab, o, rfl, hbB, hc⟩ := (HA.out.below hbw).at (by omega)
      have p := hc k hlt
      clear hc
      obtain ⟨x, hx⟩ : ∃ x, x = xs.getD k zSection := ⟨_, rfl⟩
      rw [← hx] at p
      have HX := Lib.hid hx
      clear hx
      obtain ⟨x0, x1⟩ := x
      obtain ⟨p0, p1⟩ := p
      simp only at p0 p1
      by_cases hg : secOk (⟨x0, x1⟩ : RSection)
      · have HG := Lib.hid (show false = decide (¬ secOk (⟨x0, x1⟩ : RSection)) from (decide_eq_false (fun g => g hg)).symm)
        have HG2 := Lib.hid hg
        clear hg
        go_wp2_with (go_at_call 102; refine (alSection_no _ _ B3 _ C3W.out (by omega) false HG.out).mono ?_; rintro e w' ⟨rfl, b1⟩)
        go_roundw
        case rel => exact ⟨k + 1, by omega, by go_num, hbw.trans (b1.mono hzw), fun j hj => by
          by_cases e : j = k
          · subst e; rw [← HX.out]; exact HG2.out
          · exact hr.out j (by omega)⟩
        case measure => simp [intOf]; omega
      · have HG := Lib.hid (show true = decide (¬ secOk (⟨x0, x1⟩ : RSection)) from (decide_eq_true hg).symm)
        have hbf : b = false := by
          cases hb : b
          · rfl
          · have := (HB.out.1 hb) k hlt
            rw [← HX.out] at this
            exact absurd this hg
        have HF := Lib.hid hbf
        clear hbf hg
        go_wp2_with (go_at_call 102; refine (alSection_no _ _ B3 _ C3W.out (by omega) true HG.out).mono ?_; rintro e w' ⟨rfl, b1⟩)
        go_ret
        exact ⟨(k : Int), rfl, hbw.trans (b1.mono hzw), by rw [HF.out]; simp⟩
    · obtain rfl : k = n := by omega
      have HT := Lib.hid (HB.out.2 hr.out)
      go_wp2
      go_ret
      exact ⟨-1, rfl, hbw, by rw [HT.out]; simp⟩

theorem alSection_has (B3 : Nat) (A : Option Addr) (n c : Nat) (xs : List RSection) (w : World) (hn : n ≤ 1048576) (ha : Rd_Section w w.heap.size A n xs) (c3 : w.cell? ⟨B3, 0, none⟩ = some (.func (.func 89) #[] #[])) (h3 : B3 < w.heap.size) (b : Bool) (hb : b = true ↔ alSection n xs) :
    Calls Tryd.prog 101 #[.slice A n c, .func (.func 102) #[] #[.pointer (some ⟨B3, 0, none⟩)]] w fun e w' => e = .returned (.bool !b) ∧ Below w.heap.size w w' := by
  have HA := Lib.hid (alSection_ix B3 A n c xs w hn ha c3 h3 b hb)
  clear ha hb c3
  go_enter Tryd.func101, Tryd.ntmps101
  go_wp2_with (go_at_call 120; refine HA.out.mono ?_; rintro e1 w1 ⟨k, rfl, b1, hk⟩; have HK := Lib.hid hk; clear hk)
  go_ret
  exact ⟨ret_bool HK.out, b1⟩

theorem alSection_all (A : Option Addr) (n c : Nat) (xs : List RSection) (w : World) (hn : n ≤ 1048576) (ha : Rd_Section w w.heap.size A n xs) (b : Bool) (hb : b = true ↔ alSection n xs) :
    Calls Tryd.prog 88 #[.slice A n c, .func (.func 89) #[] #[]] w fun e w' => e = .returned (.bool b) ∧ Below w.heap.size w w' := by
  have HA := Lib.hid ha
  have HB := Lib.hid hb
  have hnot : ∀ (x : Bool) (w : World), (Op.unary .not (.bool x)).run Tryd.prog w = .ok (.bool (!x)) w := fun _ _ => rfl
  have hmf : ∀ (fn : Fn) (first cap : Array Value) (w : World), (Instr.makeFunc fn first cap).run Tryd.prog w = .ok (.func fn first cap) w := fun _ _ _ _ => rfl
  clear ha hb
  go_enter Tryd.func88, Tryd.ntmps88
  go_wp2_with (go_at_call 101; refine (alSection_has w.heap.size _ _ _ xs _ hn ((HA.out.below (by repeat (first | assumption | exact Below.refl _ _ | (refine Below.setCell ?_ (by first | omega | (simp; done) | (simp; omega)) _) | apply below_drewN | apply Below.drew | (refine Below.alloc ?_ (by first | omega | (simp; done) | (simp; omega)) _)))).mono (by first | omega | (simp; done) | (simp; omega))) (by simp) (by simp) b HB.out).mono ?_; rintro e1 w1 ⟨rfl, b1⟩)
  go_ret
  exact ⟨by simp, (by repeat (first | assumption | exact Below.refl _ _ | (refine Below.trans ?_ (b1.mono (by first | omega | (simp; done) | (simp; omega)))) | (refine Below.setCell ?_ (by first | omega | (simp; done) | (simp; omega)) _) | apply below_drewN | apply Below.drew | (refine Below.alloc ?_ (by first | omega | (simp; done) | (simp; omega)) _)))⟩

end Go.Proofs.YticbnahndidplaaDoor
