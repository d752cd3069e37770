/- sort.Search over closures that are known by contract. -/
import Derived.Test.YtfpfmfhhcgafcabDoorCurveP
namespace Go.Proofs.YtfpfmfhhcgafcabDoor
open Go.RowKit

set_option maxRecDepth 100000 in
set_option maxHeartbeats 3200000 in
theorem search_kn (c1 c2 : Value) (n : Nat) (P : Nat → Prop) [DecidablePred P] (hm : ∀ a b, a ≤ b → b < n → P a → P b) (w : World) (hn : n ≤ 1048576)
    (hf : ∀ (i : Int) (h : Nat) (W : World) (v : Bool), i = (h : Int) → h < n → Below w.heap.size w W → v = decide (P h) → Calls Tryd.prog 58 #[.int .i64 i, c1, c2] W fun e w' => e = .returned (.bool v) ∧ Below W.heap.size W w') :
    Calls Tryd.prog 57 #[.int .i64 (n : Int), .func (.func 58) #[] #[c1, c2]] w fun e w' => e = .returned (.int .i64 ((cntNo P n : Nat) : Int)) ∧ Below w.heap.size w w' := by
  have HF := Lib.hid hf
  have HM := Lib.hid hm
  clear hf hm
  go_enter Tryd.func57, Tryd.ntmps57
  go_wp2
  go_loopw [5, 6, 7] (fun i j _ wr => ∃ p q : Nat, p ≤ q ∧ q ≤ n ∧ i = .int .i64 (p : Int) ∧ j = .int .i64 (q : Int) ∧ Below w.heap.size w wr ∧ Hid ((∀ k, k < p → ¬ P k) ∧ (q < n → P q))) (fun i j _ _ => ((intOf j) - (intOf i)).toNat)
  case atStart => exact ⟨0, n, by omega, by omega, rfl, rfl, Below.refl _ _, fun k hk => by omega, fun h => by omega⟩
  case round =>
    obtain ⟨p, q, hpq, hq, rfl, rfl, hbw, hr⟩ := hrel
    by_cases hlt : p < q
    · have hm1 : p ≤ (p + q) / 2 := by omega
      have hm2 : (p + q) / 2 < q := by omega
      obtain ⟨m, hm⟩ : ∃ m, m = (p + q) / 2 := ⟨_, rfl⟩
      rw [← hm] at hm1 hm2
      have HE := Lib.hid (show ((p : Int) + (q : Int)) / 2 = (m : Int) by omega)
      have hz := hbw.size
      clear hm
      by_cases hp : P m
      · have HP := Lib.hid hp
        have HQ := Lib.hid (show true = decide (P m) by simp [hp])
        clear hp
        go_wp2_with (go_at_call 58; refine (HF.out _ m _ true HE.out (by omega) hbw HQ.out).mono ?_; rintro e1 W1 ⟨rfl, b1⟩)
        go_roundw
        case rel => exact ⟨p, m, by omega, by omega, rfl, by rw [← HE.out], (by repeat (first | assumption | exact Below.refl _ _ | (refine Below.trans ?_ (b1.mono (by first | omega | (simp; done) | (simp; omega)))) | (refine Below.trans ?_ (hbw.mono (by first | omega | (simp; done) | (simp; omega)))) | (refine Below.setCell ?_ (by first | omega | (simp; done) | (simp; omega)) _) | apply below_drewN | apply Below.drew | (refine Below.alloc ?_ (by first | omega | (simp; done) | (simp; omega)) _))), hr.out.1, fun _ => HP.out⟩
        case measure => have := HE.out; simp [intOf]; omega
      · have HP := Lib.hid hp
        have HQ := Lib.hid (show false = decide (P m) by simp [hp])
        clear hp
        go_wp2_with (go_at_call 58; refine (HF.out _ m _ false HE.out (by omega) hbw HQ.out).mono ?_; rintro e1 W1 ⟨rfl, b1⟩)
        go_roundw
        case rel => exact ⟨m + 1, q, by omega, by omega, by rw [HE.out]; go_num, rfl, (by repeat (first | assumption | exact Below.refl _ _ | (refine Below.trans ?_ (b1.mono (by first | omega | (simp; done) | (simp; omega)))) | (refine Below.trans ?_ (hbw.mono (by first | omega | (simp; done) | (simp; omega)))) | (refine Below.setCell ?_ (by first | omega | (simp; done) | (simp; omega)) _) | apply below_drewN | apply Below.drew | (refine Below.alloc ?_ (by first | omega | (simp; done) | (simp; omega)) _))), fun k hk hrk => HP.out (HM.out k m (by omega) (by omega) hrk), hr.out.2⟩
        case measure => have := HE.out; simp [intOf]; omega
    · obtain rfl : p = q := by omega
      have HE := Lib.hid (show cntNo P n = p from cntNo_eq hq HM.out hr.out.1 hr.out.2)
      go_wp2
      go_ret
      exact ⟨ret_int (by rw [HE.out]), hbw⟩
end Go.Proofs.YtfpfmfhhcgafcabDoor
