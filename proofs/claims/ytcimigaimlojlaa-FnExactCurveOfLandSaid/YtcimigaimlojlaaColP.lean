/- What CurveOfLand answers; no function of the program in it. -/
import Derived.Test.YtcimigaimlojlaaThrough
import Derived.Test.YtcimigaimlojlaaSCurve
namespace Go.Proofs.Ytcimigaimlojlaa
open Go.RowKit

def lsOf (fr to step : Int) : List Int := lv4 fr to step ++ [to]
def vsOf (fr to step : Int) (xs : List Int) : List Int := volsOf (lsOf fr to step) xs xs.length
def colOk (a0_0 : Int) (a0_1 : Int) (xa0_2 : List Int) (a1 : Int) (a2 : Int) (a3 : Int) : Prop := (LandOk a0_0 a0_1 xa0_2 ∧ rng a1 a2 a3) ∧ ¬ 12 ≤ (lv4 a1 a2 a3).length ∧ CurveOk (lsOf a1 a2 a3) (vsOf a1 a2 a3 xa0_2)
instance (a0_0 : Int) (a0_1 : Int) (xa0_2 : List Int) (a1 : Int) (a2 : Int) (a3 : Int) : Decidable (colOk a0_0 a0_1 xa0_2 a1 a2 a3) := by unfold colOk; exact inferInstance
def r0_CurveOfLand (a0_0 : Int) (a0_1 : Int) (xa0_2 : List Int) (a1 : Int) (a2 : Int) (a3 : Int) : List Int := if colOk a0_0 a0_1 xa0_2 a1 a2 a3 then lsOf a1 a2 a3 else []
def r1_CurveOfLand (a0_0 : Int) (a0_1 : Int) (xa0_2 : List Int) (a1 : Int) (a2 : Int) (a3 : Int) : List Int := if colOk a0_0 a0_1 xa0_2 a1 a2 a3 then vsOf a1 a2 a3 xa0_2 else []
def r2_CurveOfLand (a0_0 : Int) (a0_1 : Int) (xa0_2 : List Int) (a1 : Int) (a2 : Int) (a3 : Int) : Int := if LandOk a0_0 a0_1 xa0_2 ∧ rng a1 a2 a3 then (if 12 ≤ (lv4 a1 a2 a3).length then 5 else if CurveOk (lsOf a1 a2 a3) (vsOf a1 a2 a3 xa0_2) then 0 else 6) else lcode a0_0 a0_1 xa0_2 (rng a1 a2 a3)
theorem lsOf_len (fr to step : Int) : (lsOf fr to step).length = (lv4 fr to step).length + 1 := by rw [lsOf, List.length_append]; rfl
theorem vsOf_len (fr to step : Int) (xs : List Int) : (vsOf fr to step xs).length = (lv4 fr to step).length + 1 := by rw [vsOf, volsOf, List.length_map, lsOf_len]
theorem len_r0_CurveOfLand (a0_0 : Int) (a0_1 : Int) (xa0_2 : List Int) (a1 : Int) (a2 : Int) (a3 : Int) : (r0_CurveOfLand a0_0 a0_1 xa0_2 a1 a2 a3).length ≤ 1048576 := by
  unfold r0_CurveOfLand
  split
  · rw [lsOf_len]; have := lv4_len a1 a2 a3; omega
  · simp
theorem len_r1_CurveOfLand (a0_0 : Int) (a0_1 : Int) (xa0_2 : List Int) (a1 : Int) (a2 : Int) (a3 : Int) : (r1_CurveOfLand a0_0 a0_1 xa0_2 a1 a2 a3).length ≤ 1048576 := by
  unfold r1_CurveOfLand
  split
  · rw [vsOf_len]; have := lv4_len a1 a2 a3; omega
  · simp
section
variable {a0_0 a0_1 : Int} {xa0_2 : List Int} {a1 a2 a3 : Int}
theorem col_ok (h : colOk a0_0 a0_1 xa0_2 a1 a2 a3) : r0_CurveOfLand a0_0 a0_1 xa0_2 a1 a2 a3 = lsOf a1 a2 a3 ∧ r1_CurveOfLand a0_0 a0_1 xa0_2 a1 a2 a3 = vsOf a1 a2 a3 xa0_2 ∧ r2_CurveOfLand a0_0 a0_1 xa0_2 a1 a2 a3 = 0 :=
  ⟨if_pos h, if_pos h, by unfold r2_CurveOfLand; rw [if_pos h.1, if_neg h.2.1, if_pos h.2.2]⟩
theorem col_full (h : LandOk a0_0 a0_1 xa0_2 ∧ rng a1 a2 a3) (hf : 12 ≤ (lv4 a1 a2 a3).length) : r0_CurveOfLand a0_0 a0_1 xa0_2 a1 a2 a3 = [] ∧ r1_CurveOfLand a0_0 a0_1 xa0_2 a1 a2 a3 = [] ∧ r2_CurveOfLand a0_0 a0_1 xa0_2 a1 a2 a3 = 5 :=
  ⟨if_neg (fun g => g.2.1 hf), if_neg (fun g => g.2.1 hf), by unfold r2_CurveOfLand; rw [if_pos h, if_pos hf]⟩
theorem col_state (h : LandOk a0_0 a0_1 xa0_2 ∧ rng a1 a2 a3) (hf : ¬ 12 ≤ (lv4 a1 a2 a3).length) (hc : ¬ CurveOk (lsOf a1 a2 a3) (vsOf a1 a2 a3 xa0_2)) : r0_CurveOfLand a0_0 a0_1 xa0_2 a1 a2 a3 = [] ∧ r1_CurveOfLand a0_0 a0_1 xa0_2 a1 a2 a3 = [] ∧ r2_CurveOfLand a0_0 a0_1 xa0_2 a1 a2 a3 = 6 :=
  ⟨if_neg (fun g => hc g.2.2), if_neg (fun g => hc g.2.2), by unfold r2_CurveOfLand; rw [if_pos h, if_neg hf, if_neg hc]⟩
theorem col_no (h : ¬ (LandOk a0_0 a0_1 xa0_2 ∧ rng a1 a2 a3)) : r0_CurveOfLand a0_0 a0_1 xa0_2 a1 a2 a3 = [] ∧ r1_CurveOfLand a0_0 a0_1 xa0_2 a1 a2 a3 = [] ∧ r2_CurveOfLand a0_0 a0_1 xa0_2 a1 a2 a3 = lcode a0_0 a0_1 xa0_2 (rng a1 a2 a3) :=
  ⟨if_neg (fun g => h g.1), if_neg (fun g => h g.1), by unfold r2_CurveOfLand; rw [if_neg h]⟩
end
/-- how a range is wrong -/
theorem rng_no {fr to step : Int} (h : ¬ rng fr to step) : (fr < -2000 ∨ 2000 < fr) ∨ ((-2000 ≤ fr ∧ fr ≤ 2000) ∧ (to < -2000 ∨ 2000 < to)) ∨ ((-2000 ≤ fr ∧ fr ≤ 2000) ∧ (-2000 ≤ to ∧ to ≤ 2000) ∧ ¬ fr < to) ∨ ((-2000 ≤ fr ∧ fr ≤ 2000) ∧ (-2000 ≤ to ∧ to ≤ 2000) ∧ fr < to ∧ (step < 1 ∨ 4000 < step)) := by
  unfold rng lvl at h
  omega
theorem wr0 (w : World) (b : Nat) : Wr w b none ([] : List Int).length [] := ⟨rfl, fun h => absurd h (by simp)⟩
theorem dis0 : Dis none ([] : List Int).length none ([] : List Int).length := fun h => absurd h (by simp)
theorem level_f' (x : Int) (w : World) (h : x < -2000 ∨ 2000 < x) : Calls Try.prog 69 #[.int .i64 x] w fun e w' => e = .returned (.bool false) ∧ w = w' := by
  have := level_any x w
  rw [show decide (lvl x) = false from decide_eq_false (fun h2 => by unfold lvl at h2; omega)] at this
  exact this
theorem levelsBetween_n (fr to step : Int) (N : Nat) (w : World) (h : rng fr to step) (hN : N = (lv4 fr to step).length + 1) :
    Calls Try.prog 65 #[.int .i64 fr, .int .i64 to, .int .i64 step] w fun e w' => ∃ A c, e = .returned (.slice A N c) ∧ Below w.heap.size w w' ∧ Wr w' w.heap.size A N (lsOf fr to step) := by
  subst hN
  exact levelsBetween_t fr to step w h
theorem lsOf_first {fr to step : Int} (h : rng fr to step) : (lsOf fr to step).getD 0 0 = fr := by
  obtain ⟨_, _, h3, _⟩ := h
  rw [lsOf, lv4, lvs_step h3]
  rfl

end Go.Proofs.Ytcimigaimlojlaa
