/- Breaches: levels hour by hour, stones hour by hour; the codes: of the model and of the program. -/
import Derived.Test.YtckhfkgldemcnaaDoorBreV
namespace Go.Proofs.YtckhfkgldemcnaaDoor
open Go.RowKit

def stepsOk (ys : List Int) : Prop := (∀ j, j < ys.length → levOk (ys.getD j 0)) ∧ ys.length ≤ 100
instance (ys : List Int) : Decidable (stepsOk ys) := by unfold stepsOk; exact inferInstance
def thrOk (ys : List Int) : Prop := ∀ j, j < ys.length → stoOk (ys.getD j 0)
instance (ys : List Int) : Decidable (thrOk ys) := by unfold thrOk; exact inferInstance

set_option maxHeartbeats 800000 in
theorem asI_any (A : Option Addr) (n c : Nat) (ys : List Int) (w : World) (hn : n ≤ 1048576) (ha : Rd w w.heap.size A n ys) (v : Bool) (hv : v = decide (stepsOk ys)) :
    Calls Tryd.prog 59 #[.slice A n c] w fun e w' => e = .returned (.bool v) ∧ Below w.heap.size w w' := by
  have hl := ha.1
  have HA := Lib.hid ha
  obtain ⟨b, hb⟩ : ∃ b, b = decide (∀ j, j < ys.length → levOk (ys.getD j 0)) := ⟨_, rfl⟩
  have HB := Lib.hid (show b = true ↔ allIn (-2000) 2000 n ys by
    rw [hb, decide_eq_true_iff, hl]; exact ⟨fun h j hj => h j hj, fun h j hj => h j hj⟩)
  have HV := Lib.hid (show v = (b && decide (n ≤ 100)) by
    rw [hv, hb, ← hl]; unfold stepsOk; exact Bool.decide_and _ _)
  clear ha hb hv
  cases b
  · obtain rfl : v = false := HV.out
    go_enter Tryd.func59, Tryd.ntmps59
    go_wp2_with (go_at_call 91; refine (areLevels_any A n c ys _ hn ((HA.out.below (by repeat (first | assumption | exact Below.refl _ _ | (refine Below.setCell ?_ (by first | omega | (simp; done) | (simp; omega)) _) | apply below_drewN | apply Below.drew | (refine Below.alloc ?_ (by first | omega | (simp; done) | (simp; omega)) _)))).mono (by first | omega | (simp; done) | (simp; omega))) false HB.out).mono ?_; rintro e1 W1 ⟨rfl, b1⟩)
    go_ret
    exact ⟨rfl, (by repeat (first | assumption | exact Below.refl _ _ | (refine Below.trans ?_ (b1.mono (by first | omega | (simp; done) | (simp; omega)))) | (refine Below.setCell ?_ (by first | omega | (simp; done) | (simp; omega)) _) | apply below_drewN | apply Below.drew | (refine Below.alloc ?_ (by first | omega | (simp; done) | (simp; omega)) _)))⟩
  · have HV2 := Lib.hid (show decide ((n : Int) ≤ 100) = v by rw [HV.out, Bool.true_and]; exact decide_eq_decide.2 (by omega))
    go_enter Tryd.func59, Tryd.ntmps59
    go_wp2_with (go_at_call 91; refine (areLevels_any A n c ys _ hn ((HA.out.below (by repeat (first | assumption | exact Below.refl _ _ | (refine Below.setCell ?_ (by first | omega | (simp; done) | (simp; omega)) _) | apply below_drewN | apply Below.drew | (refine Below.alloc ?_ (by first | omega | (simp; done) | (simp; omega)) _)))).mono (by first | omega | (simp; done) | (simp; omega))) true HB.out).mono ?_; rintro e1 W1 ⟨rfl, b1⟩)
    go_ret
    exact ⟨ret_bool HV2.out, (by repeat (first | assumption | exact Below.refl _ _ | (refine Below.trans ?_ (b1.mono (by first | omega | (simp; done) | (simp; omega)))) | (refine Below.setCell ?_ (by first | omega | (simp; done) | (simp; omega)) _) | apply below_drewN | apply Below.drew | (refine Below.alloc ?_ (by first | omega | (simp; done) | (simp; omega)) _)))⟩

set_option maxHeartbeats 800000 in
theorem thI_any (A : Option Addr) (n c : Nat) (ys : List Int) (w : World) (hn : n ≤ 1048576) (ha : Rd w w.heap.size A n ys) (v : Bool) (hv : v = decide (thrOk ys)) :
    Calls Tryd.prog 55 #[.slice A n c] w fun e w' => e = .returned (.bool v) ∧ Below w.heap.size w w' := by
  have hl := ha.1
  have HA := Lib.hid ha
  have HB := Lib.hid (show v = true ↔ allIn 0 1000 n ys by
    rw [hv, decide_eq_true_iff]; unfold thrOk; rw [hl]; exact ⟨fun h j hj => h j hj, fun h j hj => h j hj⟩)
  clear ha hv
  go_enter Tryd.func55, Tryd.ntmps55
  go_wp2_with (go_at_call 89; refine (aw_any 0 1000 A n c ys _ hn ((HA.out.below (by repeat (first | assumption | exact Below.refl _ _ | (refine Below.setCell ?_ (by first | omega | (simp; done) | (simp; omega)) _) | apply below_drewN | apply Below.drew | (refine Below.alloc ?_ (by first | omega | (simp; done) | (simp; omega)) _)))).mono (by first | omega | (simp; done) | (simp; omega))) v HB.out).mono ?_; rintro e1 W1 ⟨rfl, b1⟩)
  go_ret
  exact ⟨rfl, (by repeat (first | assumption | exact Below.refl _ _ | (refine Below.trans ?_ (b1.mono (by first | omega | (simp; done) | (simp; omega)))) | (refine Below.setCell ?_ (by first | omega | (simp; done) | (simp; omega)) _) | apply below_drewN | apply Below.drew | (refine Below.alloc ?_ (by first | omega | (simp; done) | (simp; omega)) _)))⟩

theorem thI_one (B : Nat) (x : Int) (w : World) (hB : B < w.heap.size) (hc : w.cell? ⟨B, 0, none⟩ = some (.int .i64 x)) (v : Bool) (hv : v = decide (stoOk x)) :
    Calls Tryd.prog 55 #[.slice (some ⟨B, 0, none⟩) 1 1] w fun e w' => e = .returned (.bool v) ∧ Below w.heap.size w w' :=
  thI_any (some ⟨B, 0, none⟩) 1 1 [x] w (by omega) ⟨rfl, fun _ => ⟨B, 0, rfl, hB, fun j hj => by obtain rfl : j = 0 := (by omega); simpa using hc⟩⟩ v (by
    rw [hv]
    refine decide_eq_decide.2 ⟨fun h j hj => ?_, fun h => ?_⟩
    · obtain rfl : j = 0 := by simp at hj; omega
      simpa using h
    · simpa using h 0 (by simp))

set_option maxRecDepth 100000 in
set_option maxHeartbeats 1600000 in
theorem l12List_any (q : Nat) (A0 : Option Addr) (n0 k0 : Nat) (ls : List Int) (A1 : Option Addr) (n1 k1 : Nat) (vs : List Int) (a b c : Int) (O : Option Addr) (no ko : Nat) (ys : List Int) (oth : Bool) (w : World) (hq : q < w.heap.size) (hat : CurveAt w q A0 n0 k0 A1 n1 k1) (hn0 : n0 ≤ 1048576) (hn1 : n1 ≤ 1048576) (hno : no ≤ 1048576) (ra : Rd w w.heap.size A0 n0 ls) (rb : Rd w w.heap.size A1 n1 vs) (ro : Rd w w.heap.size O no ys) (p : Prop) [Decidable p] (hp : oth = decide p) (k : Int) (hk : k = bcode ls vs a b c (stepsOk ys ∧ p)) :
    Calls Tryd.prog 58 #[.pointer (some ⟨q, 0, none⟩), .agg #[.int .i64 a, .int .i64 b, .int .i64 c], .slice O no ko, .bool oth] w fun e w' => e = .returned (.int .i64 k) ∧ Below w.heap.size w w' := by
  have RA := Lib.hid ra
  have RB := Lib.hid rb
  have RO := Lib.hid ro
  have HAT := Lib.hid hat
  have hl := ro.1
  obtain ⟨v, hv⟩ : ∃ v, v = decide (brOk ls vs a b c) := ⟨_, rfl⟩
  have HV := Lib.hid hv
  have HK := Lib.hid hk
  have HP := Lib.hid hp
  clear ra rb ro hat hp
  by_cases hb : brOk ls vs a b c
  · obtain rfl : v = true := by rw [hv]; exact decide_eq_true hb
    have HNO := Lib.hid (show ¬ (stepsOk ys ∧ p) → k = 2 from fun h => by rw [HK.out]; unfold bcode; rw [if_pos hb, if_neg h])
    have HYE := Lib.hid (show stepsOk ys ∧ p → k = 0 from fun h => by rw [HK.out]; unfold bcode; rw [if_pos hb, if_pos h])
    clear hv hk hb
    go_enter Tryd.func58, Tryd.ntmps58
    go_wp2_with (go_at_call 79; refine (l12Ok_any q A0 n0 k0 ls A1 n1 k1 vs a b c _ (by first | omega | (simp; done) | (simp; omega)) (HAT.out.below (B := w.heap.size) (by repeat (first | assumption | exact Below.refl _ _ | (refine Below.setCell ?_ (by first | omega | (simp; done) | (simp; omega)) _) | apply below_drewN | apply Below.drew | (refine Below.alloc ?_ (by first | omega | (simp; done) | (simp; omega)) _))) hq) hn0 hn1 ((RA.out.below (by repeat (first | assumption | exact Below.refl _ _ | (refine Below.setCell ?_ (by first | omega | (simp; done) | (simp; omega)) _) | apply below_drewN | apply Below.drew | (refine Below.alloc ?_ (by first | omega | (simp; done) | (simp; omega)) _)))).mono (by first | omega | (simp; done) | (simp; omega))) ((RB.out.below (by repeat (first | assumption | exact Below.refl _ _ | (refine Below.setCell ?_ (by first | omega | (simp; done) | (simp; omega)) _) | apply below_drewN | apply Below.drew | (refine Below.alloc ?_ (by first | omega | (simp; done) | (simp; omega)) _)))).mono (by first | omega | (simp; done) | (simp; omega))) true HV.out).mono ?_; rintro e1 W1 ⟨rfl, b1⟩; have d1 : Below w.heap.size w W1 := (by repeat (first | assumption | exact Below.refl _ _ | (refine Below.trans ?_ (b1.mono (by first | omega | (simp; done) | (simp; omega)))) | (refine Below.setCell ?_ (by first | omega | (simp; done) | (simp; omega)) _) | apply below_drewN | apply Below.drew | (refine Below.alloc ?_ (by first | omega | (simp; done) | (simp; omega)) _))); clear b1)
    have s1 := d1.size
    go_loop [9] (fun i => ∃ j : Nat, j ≤ no ∧ i = .int .i64 (j : Int) ∧ Hid (∀ m, m < j → levOk (ys.getD m 0))) (fun i => no - (intOf i).toNat)
    case atStart => exact ⟨0, by omega, rfl, fun m hm => absurd hm (by omega)⟩
    case round =>
      obtain ⟨j, hj, rfl, hr⟩ := hrel
      by_cases hlt : j < no
      · obtain ⟨ab, o, rfl, hbB, hc⟩ := (RO.out.below d1).2 (by omega)
        have c1 := hc j hlt
        obtain ⟨y, hy⟩ : ∃ y, y = ys.getD j 0 := ⟨_, rfl⟩
        rw [← hy] at c1
        have HY := Lib.hid hy
        clear hc hy
        by_cases hly : levOk y
        · have HL := Lib.hid (show true = decide (levOk y) from (decide_eq_true hly).symm)
          have HLY := Lib.hid hly
          clear hly
          go_wp2_with (go_at_call 62; refine (l02L_any _ _ _ HL.out).mono ?_; rintro e2 w2 ⟨rfl, rfl⟩)
          go_round
          case rel => exact ⟨j + 1, by omega, by go_num, fun m hm => by
            by_cases e : m = j
            · subst e; rw [← HY.out]; exact HLY.out
            · exact hr.out m (by omega)⟩
          case measure => simp [intOf]; omega
        · have HL := Lib.hid (show false = decide (levOk y) from (decide_eq_false hly).symm)
          have HN := Lib.hid (HNO.out (fun h => hly (by rw [HY.out]; exact h.1.1 j (by omega))))
          clear hly
          go_wp2_with (go_at_call 62; refine (l02L_any _ _ _ HL.out).mono ?_; rintro e2 w2 ⟨rfl, rfl⟩)
          go_ret
          exact ⟨ret_int HN.out.symm, d1⟩
      · obtain rfl : j = no := by omega
        by_cases h100 : j ≤ 100
        · have i1 : ¬ ((j : Int) > 100) := by omega
          by_cases hp2 : p
          · obtain rfl : oth = true := by rw [HP.out]; exact decide_eq_true hp2
            have HN := Lib.hid (HYE.out ⟨⟨fun m hm => hr.out m (by omega), by omega⟩, hp2⟩)
            clear hp2
            go_wp2
            go_ret
            exact ⟨ret_int HN.out.symm, d1⟩
          · obtain rfl : oth = false := by rw [HP.out]; exact decide_eq_false hp2
            have HN := Lib.hid (HNO.out (fun h => hp2 h.2))
            clear hp2
            go_wp2
            go_ret
            exact ⟨ret_int HN.out.symm, d1⟩
        · have i1 : decide ((100 : Int) < (j : Int)) = true := decide_eq_true (by omega)
          have i2 : (100 : Int) < (j : Int) := by omega
          have HN := Lib.hid (HNO.out (fun h => h100 (by have := h.1.2; omega)))
          clear h100
          go_wp2
          go_ret
          exact ⟨ret_int HN.out.symm, d1⟩
  · obtain rfl : v = false := by rw [hv]; exact decide_eq_false hb
    have HN := Lib.hid (show k = 1 by rw [hk]; unfold bcode; rw [if_neg hb])
    clear hv hk hb HK
    go_enter Tryd.func58, Tryd.ntmps58
    go_wp2_with (go_at_call 79; refine (l12Ok_any q A0 n0 k0 ls A1 n1 k1 vs a b c _ (by first | omega | (simp; done) | (simp; omega)) (HAT.out.below (B := w.heap.size) (by repeat (first | assumption | exact Below.refl _ _ | (refine Below.setCell ?_ (by first | omega | (simp; done) | (simp; omega)) _) | apply below_drewN | apply Below.drew | (refine Below.alloc ?_ (by first | omega | (simp; done) | (simp; omega)) _))) hq) hn0 hn1 ((RA.out.below (by repeat (first | assumption | exact Below.refl _ _ | (refine Below.setCell ?_ (by first | omega | (simp; done) | (simp; omega)) _) | apply below_drewN | apply Below.drew | (refine Below.alloc ?_ (by first | omega | (simp; done) | (simp; omega)) _)))).mono (by first | omega | (simp; done) | (simp; omega))) ((RB.out.below (by repeat (first | assumption | exact Below.refl _ _ | (refine Below.setCell ?_ (by first | omega | (simp; done) | (simp; omega)) _) | apply below_drewN | apply Below.drew | (refine Below.alloc ?_ (by first | omega | (simp; done) | (simp; omega)) _)))).mono (by first | omega | (simp; done) | (simp; omega))) false HV.out).mono ?_; rintro e1 W1 ⟨rfl, b1⟩; have d1 : Below w.heap.size w W1 := (by repeat (first | assumption | exact Below.refl _ _ | (refine Below.trans ?_ (b1.mono (by first | omega | (simp; done) | (simp; omega)))) | (refine Below.setCell ?_ (by first | omega | (simp; done) | (simp; omega)) _) | apply below_drewN | apply Below.drew | (refine Below.alloc ?_ (by first | omega | (simp; done) | (simp; omega)) _))); clear b1)
    go_ret
    exact ⟨ret_int HN.out.symm, d1⟩


end Go.Proofs.YtckhfkgldemcnaaDoor
