/- Whether a breach is valid for a curve, the codes: of the model and of the program. -/
import Derived.Test.YticbnahndidplaaDoorBreC
import Derived.Test.YticbnahndidplaaDoorCurveV
import Derived.Deep.RegionHeld3
import Derived.IntWalk
namespace Go.Proofs.YticbnahndidplaaDoor
open Go.RowKit

theorem vcI_any (A0 : Option Addr) (n0 k0 : Nat) (ls : List Int) (A1 : Option Addr) (n1 k1 : Nat) (vs : List Int) (w : World) (hn0 : n0 ≤ 1048576) (hn1 : n1 ≤ 1048576) (ra : Rd w w.heap.size A0 n0 ls) (rb : Rd w w.heap.size A1 n1 vs) (v : Bool) (hv : v = decide (CurveOk ls vs)) :
    Calls Tryd.prog 59 #[.agg #[.slice A0 n0 k0, .slice A1 n1 k1]] w fun e w' => e = .returned (.bool v) ∧ Below w.heap.size w w' :=
  impl_vcurve A0 n0 k0 ls A1 n1 k1 vs w hn0 hn1 ra rb v (by rw [hv]; exact decide_eq_true_iff)

theorem br_no1 {ls vs : List Int} {a b c : Int} (h : ¬ CurveOk ls vs) : false = decide (brOk ls vs a b c) := (decide_eq_false fun g => h g.1).symm
theorem br_no2 {ls vs : List Int} {a b c : Int} (h : ¬ tlOk a b c) : false = decide (brOk ls vs a b c) := (decide_eq_false fun g => h g.2.1).symm
theorem br_at {ls vs : List Int} {a b c : Int} (h : CurveOk ls vs) (g : tlOk a b c) : decide (c ≤ lastN vs) = decide (brOk ls vs a b c) := by
  by_cases k : c ≤ lastN vs
  · rw [decide_eq_true k, decide_eq_true (show brOk ls vs a b c from ⟨h, g, k⟩)]
  · rw [decide_eq_false k, decide_eq_false (show ¬ brOk ls vs a b c from fun e => k e.2.2)]

theorem bcode_eq {ls vs : List Int} {a b c : Int} {p : Prop} [Decidable p] {v r : Bool} (hv : v = decide (brOk ls vs a b c)) (hr : r = decide p) : bcode ls vs a b c p = if v then (if r then 0 else 2) else 1 := by
  unfold bcode
  subst hv hr
  by_cases h : brOk ls vs a b c <;> by_cases g : p <;> simp [h, g]


end Go.Proofs.YticbnahndidplaaDoor
