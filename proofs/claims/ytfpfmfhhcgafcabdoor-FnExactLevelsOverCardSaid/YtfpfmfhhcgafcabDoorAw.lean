/- Whether all numbers of a list are within two bounds (the program: slices.ContainsFunc over a closure). -/
import Derived.Test.YtfpfmfhhcgafcabDoorReg
import Derived.Test.YtfpfmfhhcgafcabDoorIn
namespace Go.Proofs.YtfpfmfhhcgafcabDoor
open Go.RowKit

def allIn (lo hi : Int) (n : Nat) (xs : List Int) : Prop := ∀ j, j < n → lo ≤ xs.getD j 0 ∧ xs.getD j 0 ≤ hi
instance (lo hi : Int) (n : Nat) (xs : List Int) : Decidable (allIn lo hi n xs) := by unfold allIn; exact inferInstance

theorem awCl_t (x lo hi : Int) (B1 B2 : Nat) (w : World) (c1 : w.cell? ⟨B1, 0, none⟩ = some (.int .i64 lo)) (c2 : w.cell? ⟨B2, 0, none⟩ = some (.int .i64 hi)) (v : Bool) (hv : v = decide (lo ≤ x ∧ x ≤ hi)) :
    Calls Tryd.prog 64 #[.int .i64 x, .pointer (some ⟨B1, 0, none⟩), .pointer (some ⟨B2, 0, none⟩)] w fun e w' => e = .returned (.bool v) ∧ w = w' := by
  by_cases h : lo ≤ x ∧ x ≤ hi
  · obtain rfl : v = true := by rw [hv]; exact decide_eq_true h
    clear hv
    go_enter Tryd.func64, Tryd.ntmps64
    go_wp2_with (go_at_call 38; first | (refine (within_t _ _ _ _ (by omega)).mono ?_; rintro e w' ⟨rfl, rfl⟩) | (refine (within_f _ _ _ _ (by omega)).mono ?_; rintro e w' ⟨rfl, rfl⟩))
    go_ret
    exact ⟨rfl, rfl⟩
  · obtain rfl : v = false := by rw [hv]; exact decide_eq_false h
    have h' : x < lo ∨ hi < x := by omega
    clear hv h
    go_enter Tryd.func64, Tryd.ntmps64
    go_wp2_with (go_at_call 38; first | (refine (within_t _ _ _ _ (by omega)).mono ?_; rintro e w' ⟨rfl, rfl⟩) | (refine (within_f _ _ _ _ (by omega)).mono ?_; rintro e w' ⟨rfl, rfl⟩))
    go_ret
    exact ⟨rfl, rfl⟩

theorem awNo_t (x lo hi : Int) (B1 B2 B3 : Nat) (w : World) (c1 : w.cell? ⟨B1, 0, none⟩ = some (.int .i64 lo)) (c2 : w.cell? ⟨B2, 0, none⟩ = some (.int .i64 hi)) (c3 : w.cell? ⟨B3, 0, none⟩ = some (.func (.func 64) #[] #[.pointer (some ⟨B1, 0, none⟩), .pointer (some ⟨B2, 0, none⟩)])) (v : Bool) (hv : v = decide (¬ (lo ≤ x ∧ x ≤ hi))) :
    Calls Tryd.prog 66 #[.int .i64 x, .pointer (some ⟨B3, 0, none⟩)] w fun e w' => e = .returned (.bool v) ∧ w = w' := by
  have hnot : ∀ (x : Bool) (w : World), (Op.unary .not (.bool x)).run Tryd.prog w = .ok (.bool (!x)) w := fun _ _ => rfl
  obtain ⟨u, hu⟩ : ∃ u, u = decide (lo ≤ x ∧ x ≤ hi) := ⟨_, rfl⟩
  have HU := Lib.hid hu
  have HV := Lib.hid (show v = !u by rw [hv, hu, decide_not])
  have C1 := Lib.hid c1
  have C2 := Lib.hid c2
  clear hv hu c1 c2
  go_enter Tryd.func66, Tryd.ntmps66
  go_wp2_with (go_at_call 64; refine (awCl_t _ _ _ _ _ _ C1.out C2.out u HU.out).mono ?_; rintro e w' ⟨rfl, rfl⟩)
  go_ret
  exact ⟨ret_bool HV.out.symm, rfl⟩

set_option maxHeartbeats 800000 in
theorem awIx_t (lo hi : Int) (B1 B2 B3 : Nat) (A : Option Addr) (n c : Nat) (xs : List Int) (w : World) (hn : n ≤ 1048576) (ha : Rd w w.heap.size A n xs) (c1 : w.cell? ⟨B1, 0, none⟩ = some (.int .i64 lo)) (c2 : w.cell? ⟨B2, 0, none⟩ = some (.int .i64 hi)) (c3 : w.cell? ⟨B3, 0, none⟩ = some (.func (.func 64) #[] #[.pointer (some ⟨B1, 0, none⟩), .pointer (some ⟨B2, 0, none⟩)])) (b : Bool) (hb : b = true ↔ allIn lo hi n xs) :
    Calls Tryd.prog 67 #[.slice A n c, .func (.func 66) #[] #[.pointer (some ⟨B3, 0, none⟩)]] w fun e w' => ∃ k : Int, e = .returned (.int .i64 k) ∧ w = w' ∧ decide (0 ≤ k) = !b := by
  have HA := Lib.hid ha.2
  have HB := Lib.hid hb
  have C1 := Lib.hid c1
  have C2 := Lib.hid c2
  have C3 := Lib.hid c3
  clear ha hb c1 c2 c3
  go_enter Tryd.func67, Tryd.ntmps67
  go_wp2
  go_loop [5, 8] (fun _ i => ∃ k : Nat, k ≤ n ∧ i = .int .i64 (k : Int) ∧ Hid (∀ j, j < k → lo ≤ xs.getD j 0 ∧ xs.getD j 0 ≤ hi)) (fun _ i => n - (intOf i).toNat)
  case atStart => exact ⟨0, by omega, rfl, fun j hj => absurd hj (by omega)⟩
  case round =>
    obtain ⟨k, hk, rfl, hr⟩ := hrel
    by_cases hlt : k < n
    · obtain ⟨ab, o, rfl, hbB, hc⟩ := HA.out (by omega)
      have c1 := hc k hlt
      clear hc
      obtain ⟨x, hx⟩ : ∃ x, x = xs.getD k 0 := ⟨_, rfl⟩
      rw [← hx] at c1
      have HX := Lib.hid hx
      clear hx
      by_cases hg : lo ≤ x ∧ x ≤ hi
      · have HG := Lib.hid (show false = decide (¬ (lo ≤ x ∧ x ≤ hi)) from (decide_eq_false (fun g => g hg)).symm)
        go_wp2_with (go_at_call 66; refine (awNo_t _ _ _ _ _ _ _ C1.out C2.out C3.out false HG.out).mono ?_; rintro e w' ⟨rfl, rfl⟩)
        go_round
        case rel => exact ⟨k + 1, by omega, by go_num, fun j hj => by
          by_cases e : j = k
          · subst e; rw [← HX.out]; exact hg
          · exact hr.out j (by omega)⟩
        case measure => simp [intOf]; omega
      · have HG := Lib.hid (show true = decide (¬ (lo ≤ x ∧ x ≤ hi)) from (decide_eq_true hg).symm)
        have hbf : b = false := by
          cases hb : b
          · rfl
          · have := (HB.out.1 hb) k hlt
            rw [← HX.out] at this
            exact absurd this hg
        have HF := Lib.hid hbf
        clear hbf hg
        go_wp2_with (go_at_call 66; refine (awNo_t _ _ _ _ _ _ _ C1.out C2.out C3.out true HG.out).mono ?_; rintro e w' ⟨rfl, rfl⟩)
        go_ret
        exact ⟨(k : Int), rfl, rfl, by rw [HF.out]; simp⟩
    · obtain rfl : k = n := by omega
      have HT := Lib.hid (HB.out.2 hr.out)
      go_wp2
      go_ret
      exact ⟨-1, rfl, rfl, by rw [HT.out]; simp⟩

theorem awHas_t (lo hi : Int) (B1 B2 B3 : Nat) (A : Option Addr) (n c : Nat) (xs : List Int) (w : World) (hn : n ≤ 1048576) (ha : Rd w w.heap.size A n xs) (c1 : w.cell? ⟨B1, 0, none⟩ = some (.int .i64 lo)) (c2 : w.cell? ⟨B2, 0, none⟩ = some (.int .i64 hi)) (c3 : w.cell? ⟨B3, 0, none⟩ = some (.func (.func 64) #[] #[.pointer (some ⟨B1, 0, none⟩), .pointer (some ⟨B2, 0, none⟩)])) (b : Bool) (hb : b = true ↔ allIn lo hi n xs) :
    Calls Tryd.prog 65 #[.slice A n c, .func (.func 66) #[] #[.pointer (some ⟨B3, 0, none⟩)]] w fun e w' => e = .returned (.bool !b) ∧ w = w' := by
  have HA := Lib.hid (awIx_t lo hi B1 B2 B3 A n c xs w hn ha c1 c2 c3 b hb)
  clear ha hb c1 c2 c3
  go_enter Tryd.func65, Tryd.ntmps65
  go_wp2_with (go_at_call 67; refine HA.out.mono ?_; rintro e1 w1 ⟨k, rfl, rfl, hk⟩; have HK := Lib.hid hk; clear hk)
  go_ret
  exact ⟨ret_bool HK.out, rfl⟩

theorem awAll_t (lo hi : Int) (B1 B2 : Nat) (A : Option Addr) (n c : Nat) (xs : List Int) (w : World) (hn : n ≤ 1048576) (ha : Rd w w.heap.size A n xs) (c1 : w.cell? ⟨B1, 0, none⟩ = some (.int .i64 lo)) (c2 : w.cell? ⟨B2, 0, none⟩ = some (.int .i64 hi)) (l1 : B1 < w.heap.size) (l2 : B2 < w.heap.size) (b : Bool) (hb : b = true ↔ allIn lo hi n xs) :
    Calls Tryd.prog 63 #[.slice A n c, .func (.func 64) #[] #[.pointer (some ⟨B1, 0, none⟩), .pointer (some ⟨B2, 0, none⟩)]] w fun e w' => e = .returned (.bool b) ∧ w' = w.alloc (.cells #[.func (.func 64) #[] #[.pointer (some ⟨B1, 0, none⟩), .pointer (some ⟨B2, 0, none⟩)]] 53) := by
  have HA := Lib.hid ha
  have HB := Lib.hid hb
  have n1 : ¬ B1 = w.heap.size := by omega
  have n2 : ¬ B2 = w.heap.size := by omega
  have hnot : ∀ (x : Bool) (w : World), (Op.unary .not (.bool x)).run Tryd.prog w = .ok (.bool (!x)) w := fun _ _ => rfl
  have hmf : ∀ (fn : Fn) (first cap : Array Value) (w : World), (Instr.makeFunc fn first cap).run Tryd.prog w = .ok (.func fn first cap) w := fun _ _ _ _ => rfl
  have C1 := Lib.hid (show (w.alloc (.cells #[.func (.func 64) #[] #[.pointer (some ⟨B1, 0, none⟩), .pointer (some ⟨B2, 0, none⟩)]] 53)).cell? ⟨B1, 0, none⟩ = some (.int .i64 lo) from ((Below.refl w.heap.size w).alloc (Nat.le_refl _) _).cell (p := ⟨B1, 0, none⟩) l1 |>.trans c1)
  have C2 := Lib.hid (show (w.alloc (.cells #[.func (.func 64) #[] #[.pointer (some ⟨B1, 0, none⟩), .pointer (some ⟨B2, 0, none⟩)]] 53)).cell? ⟨B2, 0, none⟩ = some (.int .i64 hi) from ((Below.refl w.heap.size w).alloc (Nat.le_refl _) _).cell (p := ⟨B2, 0, none⟩) l2 |>.trans c2)
  clear ha hb c1 c2
  go_enter Tryd.func63, Tryd.ntmps63
  go_wp2_with (go_at_call 65; refine (awHas_t lo hi B1 B2 w.heap.size _ _ _ xs _ hn ((HA.out.below (by repeat (first | assumption | exact Below.refl _ _ | (refine Below.setCell ?_ (by first | omega | (simp; done) | (simp; omega)) _) | apply below_drewN | apply Below.drew | (refine Below.alloc ?_ (by first | omega | (simp; done) | (simp; omega)) _)))).mono (by first | omega | (simp; done) | (simp; omega))) C1.out C2.out (by simp) b HB.out).mono ?_; rintro e1 w1 ⟨rfl, rfl⟩)
  go_ret
  exact ⟨by simp, rfl⟩

set_option maxHeartbeats 800000 in
theorem aw_eq (lo hi : Int) (A : Option Addr) (n c : Nat) (xs : List Int) (w : World) (hn : n ≤ 1048576) (ha : Rd w w.heap.size A n xs) (b : Bool) (hb : b = true ↔ allIn lo hi n xs) :
    Calls Tryd.prog 55 #[.slice A n c, .int .i64 lo, .int .i64 hi] w fun e w' => e = .returned (.bool b) ∧ w' = ((w.alloc (.cells #[.int .i64 lo] 2)).alloc (.cells #[.int .i64 hi] 2)).alloc (.cells #[.func (.func 64) #[] #[.pointer (some ⟨w.heap.size, 0, none⟩), .pointer (some ⟨w.heap.size + 1, 0, none⟩)]] 53) := by
  have HA := Lib.hid ha
  have HB := Lib.hid hb
  clear ha hb
  go_enter Tryd.func55, Tryd.ntmps55
  have hmf : ∀ (fn : Fn) (first cap : Array Value) (w : World), (Instr.makeFunc fn first cap).run Tryd.prog w = .ok (.func fn first cap) w := fun _ _ _ _ => rfl
  go_wp2_with (go_at_call 63; refine (awAll_t lo hi w.heap.size (w.heap.size + 1) _ _ _ xs _ hn ((HA.out.below (by repeat (first | assumption | exact Below.refl _ _ | (refine Below.setCell ?_ (by first | omega | (simp; done) | (simp; omega)) _) | apply below_drewN | apply Below.drew | (refine Below.alloc ?_ (by first | omega | (simp; done) | (simp; omega)) _)))).mono (by first | omega | (simp; done) | (simp; omega))) (by simp) (by simp) (by first | omega | (simp; done) | (simp; omega)) (by first | omega | (simp; done) | (simp; omega)) b HB.out).mono ?_; rintro e1 w1 ⟨rfl, rfl⟩)
  go_ret
  exact ⟨by simp, rfl⟩

theorem aw_any (lo hi : Int) (A : Option Addr) (n c : Nat) (xs : List Int) (w : World) (hn : n ≤ 1048576) (ha : Rd w w.heap.size A n xs) (b : Bool) (hb : b = true ↔ allIn lo hi n xs) :
    Calls Tryd.prog 55 #[.slice A n c, .int .i64 lo, .int .i64 hi] w fun e w' => e = .returned (.bool b) ∧ Below w.heap.size w w' := by
  refine (aw_eq lo hi A n c xs w hn ha b hb).mono ?_
  rintro e w' ⟨rfl, rfl⟩
  exact ⟨rfl, (by repeat (first | assumption | exact Below.refl _ _ | (refine Below.setCell ?_ (by first | omega | (simp; done) | (simp; omega)) _) | apply below_drewN | apply Below.drew | (refine Below.alloc ?_ (by first | omega | (simp; done) | (simp; omega)) _)))⟩

/-- two levels in a slice of the call's own -/
theorem rd_two (w : World) (x y : Int) (T : TypeId) : Rd (w.alloc (.cells #[.int .i64 x, .int .i64 y] T)) (w.heap.size + 1) (some ⟨w.heap.size, 0, none⟩) 2 [x, y] := by
  refine ⟨rfl, fun _ => ⟨w.heap.size, 0, rfl, by omega, fun j hj => ?_⟩⟩
  rcases j with _ | _ | j
  · simp
  · simp
  · omega
theorem rd_one (w : World) (x : Int) (T : TypeId) : Rd (w.alloc (.cells #[.int .i64 x] T)) (w.heap.size + 1) (some ⟨w.heap.size, 0, none⟩) 1 [x] := by
  refine ⟨rfl, fun _ => ⟨w.heap.size, 0, rfl, by omega, fun j hj => ?_⟩⟩
  obtain rfl : j = 0 := by omega
  simp
theorem allIn_two {lo hi x y : Int} : allIn lo hi 2 [x, y] ↔ (lo ≤ x ∧ x ≤ hi) ∧ (lo ≤ y ∧ y ≤ hi) := by
  constructor
  · intro h; exact ⟨h 0 (by omega), h 1 (by omega)⟩
  · rintro ⟨h1, h2⟩ j hj
    rcases j with _ | _ | j
    · exact h1
    · exact h2
    · omega
theorem allIn_one {lo hi x : Int} : allIn lo hi 1 [x] ↔ (lo ≤ x ∧ x ≤ hi) := by
  constructor
  · intro h; exact h 0 (by omega)
  · rintro h1 j hj
    obtain rfl : j = 0 := by omega
    exact h1

theorem codeFor_k (v r : Bool) (w : World) (k : Int) (hk : k = if v then (if r then 0 else 2) else 1) : Calls Tryd.prog 40 #[.bool v, .bool r] w fun e w' => e = .returned (.int .i64 k) ∧ w = w' := by
  subst hk
  cases v <;> cases r
  all_goals
    go_enter Tryd.func40, Tryd.ntmps40
    go_wp2
    go_ret
    exact ⟨rfl, rfl⟩

end Go.Proofs.YtfpfmfhhcgafcabDoor
