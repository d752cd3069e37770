/- Days: the codes of lists: of the model and of the program. -/
import Derived.Test.YtfpfmfhhcgafcabDoorAlWater
namespace Go.Proofs.YtfpfmfhhcgafcabDoor
open Go.RowKit

set_option maxHeartbeats 800000 in
theorem l13List_t (A : Option Addr) (n c : Nat) (xs : List RWater) (w : World) (hn : n ≤ 1048576) (ha : Rd_Water w w.heap.size A n xs) (C : Int) (hC : wcode n xs True = C) :
    Calls Tryd.prog 19 #[.slice A n c] w fun e w' => e = .returned (.int .i64 C) ∧ w = w' := by
  have HA := Lib.hid ha
  have HC := Lib.hid hC
  clear ha hC
  go_enter Tryd.func19, Tryd.ntmps19
  go_wp2
  go_loop [3] (fun i => ∃ k : Nat, k ≤ n ∧ i = .int .i64 (k : Int) ∧ Hid (∀ j, j < k → waR (xs.getD j zWater))) (fun i => n - (intOf i).toNat)
  case atStart => exact ⟨0, by omega, rfl, fun j hj => absurd hj (by omega)⟩
  case round =>
    obtain ⟨k, hk, rfl, hr⟩ := hrel
    by_cases hlt : k < n
    · obtain ⟨ab, o, rfl, hbB, hc⟩ := HA.out.at (by omega)
      have p := hc k hlt
      clear hc
      obtain ⟨x, hx⟩ := getZW xs k
      rw [← hx] at p
      have HX := Lib.hid hx
      clear hx
      obtain ⟨x0, x1, x2, x3, x4⟩ := x
      have HP := Lib.hid p
      clear p
      by_cases h0 : waOk x0 x1 x2 x3 x4
      · have HG := Lib.hid h0
        have HT := Lib.hid (show true = decide (waOk x0 x1 x2 x3 x4) from (decide_eq_true h0).symm)
        clear h0
        go_wp2_with (first | (go_at_call 35; refine (waS_any _ _ _ _ _ _ _ _ HP.out true HT.out).mono ?_; rintro e w' ⟨rfl, rfl⟩))
        go_round
        case rel => exact ⟨k + 1, by omega, by go_num, fun j hj => by
          by_cases e : j = k
          · subst e; rw [← HX.out]; exact HG.out
          · exact hr.out j (by omega)⟩
        case measure => simp [intOf]; omega
      · have HF := Lib.hid (show C = 1 by rw [← HC.out]; exact wcode_bad (fun h => h0 (by have := h k hlt; rw [← HX.out] at this; exact this)))
        have HT := Lib.hid (show false = decide (waOk x0 x1 x2 x3 x4) from (decide_eq_false h0).symm)
        clear h0
        go_wp2_with (first | (go_at_call 35; refine (waS_any _ _ _ _ _ _ _ _ HP.out false HT.out).mono ?_; rintro e w' ⟨rfl, rfl⟩))
        go_ret
        exact ⟨ret_int HF.out.symm, rfl⟩
    · obtain rfl : k = n := by omega
      by_cases h100 : k ≤ 100
      · have HE := Lib.hid (show C = 0 by rw [← HC.out]; exact wcode_ok ⟨hr.out, h100⟩ trivial)
        have e9 : ¬ ((k : Int) > 100) := by omega
        go_wp2
        go_ret
        exact ⟨ret_int HE.out.symm, rfl⟩
      · have HE := Lib.hid (show C = 2 by rw [← HC.out]; exact wcode_rg hr.out (fun h => h100 h.1))
        have e9 : ((k : Int) > 100) := by omega
        go_wp2
        go_ret
        exact ⟨ret_int HE.out.symm, rfl⟩

theorem wcode_and {n : Nat} {xs : List RWater} {P : Prop} [Decidable P] (h : ¬ waList n xs) : wcode n xs P = wcode n xs True := by
  unfold wcode
  by_cases h1 : waAll n xs
  · rw [if_pos h1, if_pos h1, if_neg (fun g => h ⟨h1, g.1⟩), if_neg (fun g => h ⟨h1, g.1⟩)]
  · rw [if_neg h1, if_neg h1]
theorem wcode_nz {n : Nat} {xs : List RWater} {P : Prop} [Decidable P] (h : ¬ waList n xs) : (wcode n xs P == 0) = false := by
  unfold wcode
  by_cases h1 : waAll n xs
  · rw [if_pos h1, if_neg (fun g => h ⟨h1, g.1⟩)]; rfl
  · rw [if_neg h1]; rfl

theorem wcode_two {n : Nat} {xs : List RWater} {P Q : Prop} [Decidable P] [Decidable Q] (h : ¬ (waList n xs ∧ P)) : wcode n xs (P ∧ Q) = wcode n xs P := by
  unfold wcode
  by_cases h1 : waAll n xs
  · rw [if_pos h1, if_pos h1, if_neg (fun g => h ⟨⟨h1, g.1⟩, g.2.1⟩), if_neg (fun g => h ⟨⟨h1, g.1⟩, g.2⟩)]
  · rw [if_neg h1, if_neg h1]
theorem wcode_z2 {n : Nat} {xs : List RWater} {P : Prop} [Decidable P] (h : ¬ (waList n xs ∧ P)) : (wcode n xs P == 0) = false := by
  unfold wcode
  by_cases h1 : waAll n xs
  · rw [if_pos h1, if_neg (fun g => h ⟨⟨h1, g.1⟩, g.2⟩)]; rfl
  · rw [if_neg h1]; rfl

/-- the program's code: the condition is a value -/
theorem rcK {n : Nat} {xs : List RWater} {P : Prop} [Decidable P] {v r b : Bool} (hv : v = true ↔ alWater n xs) (hb : b = decide P) (hr : r = (decide (n ≤ 100) && b)) : wcode n xs P = if v then (if r then 0 else 2) else 1 := by
  subst hb hr
  unfold wcode
  by_cases h1 : waAll n xs
  · rw [if_pos h1, show v = true from hv.2 h1, if_pos rfl]
    by_cases h2 : n ≤ 100 ∧ P
    · rw [if_pos h2, decide_eq_true h2.1, decide_eq_true h2.2]; rfl
    · rw [if_neg h2]
      have : (decide (n ≤ 100) && decide P) = false := by rw [← Bool.decide_and]; exact decide_eq_false h2
      rw [this]; rfl
  · rw [if_neg h1]
    cases hv' : v
    · rfl
    · exact absurd (hv.1 hv') h1

set_option maxHeartbeats 800000 in
theorem runCode_t (A : Option Addr) (n c : Nat) (xs : List RWater) (b : Bool) (P : Prop) [Decidable P] (w : World) (hn : n ≤ 1048576) (ha : Rd_Water w w.heap.size A n xs) (hb : b = decide P) (C : Int) (hC : wcode n xs P = C) :
    Calls Tryd.prog 26 #[.slice A n c, .bool b] w fun e w' => e = .returned (.int .i64 C) ∧ Below w.heap.size w w' := by
  have HA := Lib.hid ha
  obtain ⟨v, hv⟩ : ∃ v, v = decide (alWater n xs) := ⟨_, rfl⟩
  have HV := Lib.hid (show v = true ↔ alWater n xs by rw [hv]; exact decide_eq_true_iff)
  have HK := Lib.hid (show ∀ r : Bool, r = (decide (n ≤ 100) && b) → C = if v then (if r then 0 else 2) else 1 from fun r hr => hC.symm.trans (rcK HV.out hb hr))
  clear ha hv hb hC
  by_cases h : n ≤ 100
  · have e9 : ((n : Int) ≤ 100) = True := by simp; omega
    have HK2 := Lib.hid (HK.out b (by rw [decide_eq_true h]; rfl))
    go_enter Tryd.func26, Tryd.ntmps26
    go_wp2_with (first | (go_at_call 41; refine (alWater_all _ _ _ xs _ hn HA.out v HV.out).mono ?_; rintro e1 w1 ⟨rfl, b1⟩) | (go_at_call 40; refine (codeFor_k _ _ _ C HK2.out).mono ?_; rintro e2 w2 ⟨rfl, rfl⟩))
    go_ret
    exact ⟨rfl, (by repeat (first | assumption | exact Below.refl _ _ | (refine Below.trans ?_ (b1.mono (by first | omega | (simp; done) | (simp; omega)))) | (refine Below.setCell ?_ (by first | omega | (simp; done) | (simp; omega)) _) | apply below_drewN | apply Below.drew | (refine Below.alloc ?_ (by first | omega | (simp; done) | (simp; omega)) _)))⟩
  · have e9 : ¬ ((n : Int) ≤ 100) := by omega
    have HK2 := Lib.hid (HK.out false (by rw [decide_eq_false h]; rfl))
    go_enter Tryd.func26, Tryd.ntmps26
    go_wp2_with (first | (go_at_call 41; refine (alWater_all _ _ _ xs _ hn HA.out v HV.out).mono ?_; rintro e1 w1 ⟨rfl, b1⟩) | (go_at_call 40; refine (codeFor_k _ _ _ C HK2.out).mono ?_; rintro e2 w2 ⟨rfl, rfl⟩))
    go_ret
    exact ⟨rfl, (by repeat (first | assumption | exact Below.refl _ _ | (refine Below.trans ?_ (b1.mono (by first | omega | (simp; done) | (simp; omega)))) | (refine Below.setCell ?_ (by first | omega | (simp; done) | (simp; omega)) _) | apply below_drewN | apply Below.drew | (refine Below.alloc ?_ (by first | omega | (simp; done) | (simp; omega)) _)))⟩
end Go.Proofs.YtfpfmfhhcgafcabDoor
