/- Days: the codes of lists: of the model and of the program. -/
import Derived.Test.YtfpfmfhhcgafcaaAlWater
namespace Go.Proofs.Ytfpfmfhhcgafcaa
open Go.RowKit

set_option maxHeartbeats 800000 in
theorem l13List_t (A : Option Addr) (n c : Nat) (xs : List RWater) (w : World) (hn : n ≤ 1048576) (ha : Rd_Water w w.heap.size A n xs) (C : Int) (hC : wcode n xs True = C) :
    Calls Try.prog 48 #[.slice A n c] w fun e w' => e = .returned (.int .i64 C) ∧ w = w' := by
  have HA := Lib.hid ha
  have HC := Lib.hid hC
  clear ha hC
  go_enter Try.func48, Try.ntmps48
  go_wp2
  go_loop [3] (fun i => ∃ k : Nat, k ≤ n ∧ i = .int .i64 (k : Int) ∧ Hid (∀ j, j < k → waR (xs.getD j zWater))) (fun i => n - (intOf i).toNat)
  case atStart => exact ⟨0, by omega, rfl, fun j hj => absurd hj (by omega)⟩
  case round =>
    obtain ⟨k, hk, rfl, hr⟩ := hrel
    by_cases hlt : k < n
    · obtain ⟨ab, o, rfl, hbB, hc⟩ := HA.out.at (by omega)
      have p := hc k hlt
      clear hc
      obtain ⟨x, hx⟩ := getZW xs k
      rw [← hx] at p
      have HX := Lib.hid hx
      clear hx
      obtain ⟨x0, x1, x2, x3, x4⟩ := x
      have HP := Lib.hid p
      clear p
      by_cases h0 : waOk x0 x1 x2 x3 x4
      · have HG := Lib.hid h0
        have HT := Lib.hid (show true = decide (waOk x0 x1 x2 x3 x4) from (decide_eq_true h0).symm)
        clear h0
        go_wp2_with (first | (go_at_call 43; refine (waS_any _ _ _ _ _ _ _ _ HP.out true HT.out).mono ?_; rintro e w' ⟨rfl, rfl⟩))
        go_round
        case rel => exact ⟨k + 1, by omega, by go_num, fun j hj => by
          by_cases e : j = k
          · subst e; rw [← HX.out]; exact HG.out
          · exact hr.out j (by omega)⟩
        case measure => simp [intOf]; omega
      · have HF := Lib.hid (show C = 1 by rw [← HC.out]; exact wcode_bad (fun h => h0 (by have := h k hlt; rw [← HX.out] at this; exact this)))
        have HT := Lib.hid (show false = decide (waOk x0 x1 x2 x3 x4) from (decide_eq_false h0).symm)
        clear h0
        go_wp2_with (first | (go_at_call 43; refine (waS_any _ _ _ _ _ _ _ _ HP.out false HT.out).mono ?_; rintro e w' ⟨rfl, rfl⟩))
        go_ret
        exact ⟨ret_int HF.out.symm, rfl⟩
    · obtain rfl : k = n := by omega
      by_cases h100 : k ≤ 100
      · have HE := Lib.hid (show C = 0 by rw [← HC.out]; exact wcode_ok ⟨hr.out, h100⟩ trivial)
        have e9 : ¬ ((k : Int) > 100) := by omega
        go_wp2
        go_ret
        exact ⟨ret_int HE.out.symm, rfl⟩
      · have HE := Lib.hid (show C = 2 by rw [← HC.out]; exact wcode_rg hr.out (fun h => h100 h.1))
        have e9 : ((k : Int) > 100) := by omega
        go_wp2
        go_ret
        exact ⟨ret_int HE.out.symm, rfl⟩

theorem wcode_and {n : Nat} {xs : List RWater} {P : Prop} [Decidable P] (h : ¬ waList n xs) : wcode n xs P = wcode n xs True := by
  unfold wcode
  by_cases h1 : waAll n xs
  · rw [if_pos h1, if_pos h1, if_neg (fun g => h ⟨h1, g.1⟩), if_neg (fun g => h ⟨h1, g.1⟩)]
  · rw [if_neg h1, if_neg h1]
theorem wcode_nz {n : Nat} {xs : List RWater} {P : Prop} [Decidable P] (h : ¬ waList n xs) : (wcode n xs P == 0) = false := by
  unfold wcode
  by_cases h1 : waAll n xs
  · rw [if_pos h1, if_neg (fun g => h ⟨h1, g.1⟩)]; rfl
  · rw [if_neg h1]; rfl

set_option maxHeartbeats 800000 in
theorem l13Start_t (s : Int) (A : Option Addr) (n c : Nat) (xs : List RWater) (w : World) (hn : n ≤ 1048576) (ha : Rd_Water w w.heap.size A n xs) (C : Int) (hC : wcode n xs (volOk s) = C) :
    Calls Try.prog 52 #[.int .i64 s, .slice A n c] w fun e w' => e = .returned (.int .i64 C) ∧ w = w' := by
  have HA := Lib.hid ha
  subst hC
  clear ha
  by_cases h : waList n xs
  · have HL := Lib.hid (wcode_ok (P := True) h trivial)
    by_cases hs : 0 ≤ s ∧ s ≤ 1000000000
    · rw [wcode_ok (P := volOk s) h hs]
      clear h
      go_enter Try.func52, Try.ntmps52
      go_wp2_with (first | (go_at_call 48; refine (l13List_t _ _ _ xs _ hn HA.out 0 HL.out).mono ?_; rintro e w' ⟨rfl, rfl⟩) | (go_at_call 57; first | (refine (in_t _ _ _ _ (by omega)).mono ?_; rintro e w' ⟨rfl, rfl⟩) | (refine (in_f _ _ _ _ (by omega)).mono ?_; rintro e w' ⟨rfl, rfl⟩)))
      go_ret
      exact ⟨rfl, rfl⟩
    · rw [wcode_rg (P := volOk s) h.1 (fun g => hs g.2)]
      have h' : s < 0 ∨ 1000000000 < s := by omega
      clear h hs
      go_enter Try.func52, Try.ntmps52
      go_wp2_with (first | (go_at_call 48; refine (l13List_t _ _ _ xs _ hn HA.out 0 HL.out).mono ?_; rintro e w' ⟨rfl, rfl⟩) | (go_at_call 57; first | (refine (in_t _ _ _ _ (by omega)).mono ?_; rintro e w' ⟨rfl, rfl⟩) | (refine (in_f _ _ _ _ (by omega)).mono ?_; rintro e w' ⟨rfl, rfl⟩)))
      go_ret
      exact ⟨rfl, rfl⟩
  · rw [wcode_and h]
    have e2 := wcode_nz (P := True) h
    obtain ⟨C, hC⟩ : ∃ C, wcode n xs True = C := ⟨_, rfl⟩
    have HL := Lib.hid hC
    rw [hC] at e2 ⊢
    clear h hC
    go_enter Try.func52, Try.ntmps52
    go_wp2_with (first | (go_at_call 48; refine (l13List_t _ _ _ xs _ hn HA.out C HL.out).mono ?_; rintro e w' ⟨rfl, rfl⟩))
    go_ret
    exact ⟨rfl, rfl⟩

theorem wcode_two {n : Nat} {xs : List RWater} {P Q : Prop} [Decidable P] [Decidable Q] (h : ¬ (waList n xs ∧ P)) : wcode n xs (P ∧ Q) = wcode n xs P := by
  unfold wcode
  by_cases h1 : waAll n xs
  · rw [if_pos h1, if_pos h1, if_neg (fun g => h ⟨⟨h1, g.1⟩, g.2.1⟩), if_neg (fun g => h ⟨⟨h1, g.1⟩, g.2⟩)]
  · rw [if_neg h1, if_neg h1]
theorem wcode_z2 {n : Nat} {xs : List RWater} {P : Prop} [Decidable P] (h : ¬ (waList n xs ∧ P)) : (wcode n xs P == 0) = false := by
  unfold wcode
  by_cases h1 : waAll n xs
  · rw [if_pos h1, if_neg (fun g => h ⟨⟨h1, g.1⟩, g.2⟩)]; rfl
  · rw [if_neg h1]; rfl

set_option maxHeartbeats 800000 in
theorem l13Most_t (s : Int) (A : Option Addr) (n c : Nat) (xs : List RWater) (m : Int) (w : World) (hn : n ≤ 1048576) (ha : Rd_Water w w.heap.size A n xs) (C : Int) (hC : wcode n xs (volOk s ∧ volOk m) = C) :
    Calls Try.prog 58 #[.int .i64 s, .slice A n c, .int .i64 m] w fun e w' => e = .returned (.int .i64 C) ∧ w = w' := by
  have HA := Lib.hid ha
  subst hC
  clear ha
  by_cases h : waList n xs ∧ volOk s
  · have HL := Lib.hid (wcode_ok (P := volOk s) h.1 h.2)
    by_cases hs : 0 ≤ m ∧ m ≤ 1000000000
    · rw [wcode_ok (P := volOk s ∧ volOk m) h.1 ⟨h.2, hs⟩]
      clear h
      go_enter Try.func58, Try.ntmps58
      go_wp2_with (first | (go_at_call 52; refine (l13Start_t _ _ _ _ xs _ hn HA.out 0 HL.out).mono ?_; rintro e w' ⟨rfl, rfl⟩) | (go_at_call 57; first | (refine (in_t _ _ _ _ (by omega)).mono ?_; rintro e w' ⟨rfl, rfl⟩) | (refine (in_f _ _ _ _ (by omega)).mono ?_; rintro e w' ⟨rfl, rfl⟩)))
      go_ret
      exact ⟨rfl, rfl⟩
    · rw [wcode_rg (P := volOk s ∧ volOk m) h.1.1 (fun g => hs g.2.2)]
      have h' : m < 0 ∨ 1000000000 < m := by omega
      clear h hs
      go_enter Try.func58, Try.ntmps58
      go_wp2_with (first | (go_at_call 52; refine (l13Start_t _ _ _ _ xs _ hn HA.out 0 HL.out).mono ?_; rintro e w' ⟨rfl, rfl⟩) | (go_at_call 57; first | (refine (in_t _ _ _ _ (by omega)).mono ?_; rintro e w' ⟨rfl, rfl⟩) | (refine (in_f _ _ _ _ (by omega)).mono ?_; rintro e w' ⟨rfl, rfl⟩)))
      go_ret
      exact ⟨rfl, rfl⟩
  · rw [wcode_two h]
    have e2 := wcode_z2 h
    obtain ⟨C, hC⟩ : ∃ C, wcode n xs (volOk s) = C := ⟨_, rfl⟩
    have HL := Lib.hid hC
    rw [hC] at e2 ⊢
    clear h hC
    go_enter Try.func58, Try.ntmps58
    go_wp2_with (first | (go_at_call 52; refine (l13Start_t _ _ _ _ xs _ hn HA.out C HL.out).mono ?_; rintro e w' ⟨rfl, rfl⟩))
    go_ret
    exact ⟨rfl, rfl⟩

/-- the program's code: the condition is a value -/
theorem rcK {n : Nat} {xs : List RWater} {P : Prop} [Decidable P] {v r b : Bool} (hv : v = true ↔ alWater n xs) (hb : b = decide P) (hr : r = (decide (n ≤ 100) && b)) : wcode n xs P = if v then (if r then 0 else 2) else 1 := by
  subst hb hr
  unfold wcode
  by_cases h1 : waAll n xs
  · rw [if_pos h1, show v = true from hv.2 h1, if_pos rfl]
    by_cases h2 : n ≤ 100 ∧ P
    · rw [if_pos h2, decide_eq_true h2.1, decide_eq_true h2.2]; rfl
    · rw [if_neg h2]
      have : (decide (n ≤ 100) && decide P) = false := by rw [← Bool.decide_and]; exact decide_eq_false h2
      rw [this]; rfl
  · rw [if_neg h1]
    cases hv' : v
    · rfl
    · exact absurd (hv.1 hv') h1

set_option maxHeartbeats 800000 in
theorem runCode_t (A : Option Addr) (n c : Nat) (xs : List RWater) (b : Bool) (P : Prop) [Decidable P] (w : World) (hn : n ≤ 1048576) (ha : Rd_Water w w.heap.size A n xs) (hb : b = decide P) (C : Int) (hC : wcode n xs P = C) :
    Calls Try.prog 50 #[.slice A n c, .bool b] w fun e w' => e = .returned (.int .i64 C) ∧ Below w.heap.size w w' := by
  have HA := Lib.hid ha
  obtain ⟨v, hv⟩ : ∃ v, v = decide (alWater n xs) := ⟨_, rfl⟩
  have HV := Lib.hid (show v = true ↔ alWater n xs by rw [hv]; exact decide_eq_true_iff)
  have HK := Lib.hid (show ∀ r : Bool, r = (decide (n ≤ 100) && b) → C = if v then (if r then 0 else 2) else 1 from fun r hr => hC.symm.trans (rcK HV.out hb hr))
  clear ha hv hb hC
  by_cases h : n ≤ 100
  · have e9 : ((n : Int) ≤ 100) = True := by simp; omega
    have HK2 := Lib.hid (HK.out b (by rw [decide_eq_true h]; rfl))
    go_enter Try.func50, Try.ntmps50
    go_wp2_with (first | (go_at_call 71; refine (alWater_all _ _ _ xs _ hn HA.out v HV.out).mono ?_; rintro e1 w1 ⟨rfl, b1⟩) | (go_at_call 70; refine (codeFor_k _ _ _ C HK2.out).mono ?_; rintro e2 w2 ⟨rfl, rfl⟩))
    go_ret
    exact ⟨rfl, (by repeat (first | assumption | exact Below.refl _ _ | (refine Below.trans ?_ (b1.mono (by first | omega | (simp; done) | (simp; omega)))) | (refine Below.setCell ?_ (by first | omega | (simp; done) | (simp; omega)) _) | apply below_drewN | apply Below.drew | (refine Below.alloc ?_ (by first | omega | (simp; done) | (simp; omega)) _)))⟩
  · have e9 : ¬ ((n : Int) ≤ 100) := by omega
    have HK2 := Lib.hid (HK.out false (by rw [decide_eq_false h]; rfl))
    go_enter Try.func50, Try.ntmps50
    go_wp2_with (first | (go_at_call 71; refine (alWater_all _ _ _ xs _ hn HA.out v HV.out).mono ?_; rintro e1 w1 ⟨rfl, b1⟩) | (go_at_call 70; refine (codeFor_k _ _ _ C HK2.out).mono ?_; rintro e2 w2 ⟨rfl, rfl⟩))
    go_ret
    exact ⟨rfl, (by repeat (first | assumption | exact Below.refl _ _ | (refine Below.trans ?_ (b1.mono (by first | omega | (simp; done) | (simp; omega)))) | (refine Below.setCell ?_ (by first | omega | (simp; done) | (simp; omega)) _) | apply below_drewN | apply Below.drew | (refine Below.alloc ?_ (by first | omega | (simp; done) | (simp; omega)) _)))⟩

set_option maxHeartbeats 400000 in
theorem areVol_any (A : Option Addr) (n c : Nat) (xs : List Int) (w : World) (hn : n ≤ 1048576) (ha : Rd w w.heap.size A n xs) (b : Bool) (hb : b = true ↔ allIn 0 1000000000 n xs) :
    Calls Try.prog 53 #[.slice A n c] w fun e w' => e = .returned (.bool b) ∧ Below w.heap.size w w' := by
  have HA := Lib.hid ha
  have HB := Lib.hid hb
  clear ha hb
  go_enter Try.func53, Try.ntmps53
  go_wp2_with (go_at_call 44; refine (aw_any 0 1000000000 _ _ _ xs _ hn HA.out b HB.out).mono ?_; rintro e1 w1 ⟨rfl, b1⟩)
  go_ret
  exact ⟨rfl, b1⟩

theorem areVol_one (B : Nat) (x : Int) (w : World) (hB : B < w.heap.size) (h0 : w.cell? ⟨B, 0, none⟩ = some (.int .i64 x)) (v : Bool) (hv : v = decide (volOk x)) :
    Calls Try.prog 53 #[.slice (some ⟨B, 0, none⟩) 1 1] w fun e w' => e = .returned (.bool v) ∧ Below w.heap.size w w' :=
  areVol_any (some ⟨B, 0, none⟩) 1 1 [x] w (by omega) ⟨rfl, fun _ => ⟨B, 0, rfl, hB, fun j hj => by
    obtain rfl : j = 0 := by omega
    exact h0⟩⟩ v (by rw [hv, decide_eq_true_iff]; unfold volOk; exact allIn_one.symm)

theorem areVol_two (B : Nat) (x y : Int) (w : World) (hB : B < w.heap.size) (h0 : w.cell? ⟨B, 0, none⟩ = some (.int .i64 x)) (h1 : w.cell? ⟨B, 1, none⟩ = some (.int .i64 y)) (v : Bool) (hv : v = decide (volOk x ∧ volOk y)) :
    Calls Try.prog 53 #[.slice (some ⟨B, 0, none⟩) 2 2] w fun e w' => e = .returned (.bool v) ∧ Below w.heap.size w w' :=
  areVol_any (some ⟨B, 0, none⟩) 2 2 [x, y] w (by omega) ⟨rfl, fun _ => ⟨B, 0, rfl, hB, fun j hj => by
    rcases j with _ | _ | j
    · exact h0
    · exact h1
    · omega⟩⟩ v (by rw [hv, decide_eq_true_iff]; unfold volOk; exact allIn_two.symm)

end Go.Proofs.Ytfpfmfhhcgafcaa
