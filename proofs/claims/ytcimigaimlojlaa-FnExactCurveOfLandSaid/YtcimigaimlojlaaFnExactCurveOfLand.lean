/-
  For every input that can be read, laws.FnExactCurveOfLand returns true and leaves its arguments as they were: Rows.FnExactCurveOfLandSaid, no condition beside the row's own.
-/
import Derived.Test.YtcimigaimlojlaaRows
import Derived.WalkKit
import Derived.ProofKit
import Derived.OpenShut
import Derived.ShutString
import Derived.ChangeOld
import Derived.Below
import Derived.Test.YtcimigaimlojlaaOpen
import Derived.Test.YtcimigaimlojlaaWFnExactCurveOfLand
namespace Go.Proofs.Ytcimigaimlojlaa.fnExactCurveOfLand
open Go.ChangeShapes Go.WideShapes Go.ChangeAt Go.RowKit
open Go.ChangeMaps (open_string shut_string)
set_option linter.unusedVariables false

theorem own : ownKnob Try.prog.godebug = none := by kernel_rfl
theorem laidOut : laidOutB Try.prog = true := by kernel_rfl

set_option maxRecDepth 100000 in
theorem lifted (os : Os) (started : os.Started) (H : Type) (enc : TypeId × Value → H) :
    ReturnsInHanded {} Try.checked os 8 .any (Rows.fnExactCurveOfLandSpec.pre6 enc Try.prog Try.f8 Rows.fnExactCurveOfLandRow.domain false) (Rows.fnExactCurveOfLandSpec.post enc Try.prog Try.f8 false true false false) := by
  refine returnsInHanded_of_change (C := Try.checked) own started (by kernel_rfl) Try.func8
    (ChangeSpec.witness6 (enc := enc) (C := Try.checked) false ⟨#[], #[.agg #[.int .i64 0, .int .i64 0, .slice none 0 0], .int .i64 0, .int .i64 0, .int .i64 0], []⟩ 8 (by kernel_rfl) (by kernel_rfl) (by kernel_rfl) (by kernel_rfl)) ?_
  intro W base args ds gs before hval0 hW hcnd _
  have hval : ∀ (j : Nat) t v, Try.f8.params[j]? = some t → args[j]? = some v → Value.okWide Try.prog W .any base t v := hval0
  have hW' := hW
  obtain ⟨p, q, hA0, hV, rfl, hfz, hnd⟩ := hW
  have hA : DataW.TrodAll enc Try.prog W 0 (fun _ => true) true Try.f8.params.toList args.toList ds p := hA0
  rw [Try.params8] at hA hval
  obtain ⟨v0, vs0, d0, ds0, p0, q0, hargs, rfl, rfl, h0, r0⟩ := trodAll_cons hA
  obtain ⟨v1, vs1, d1, ds1, p1, q1, rfl, rfl, rfl, h1, r1⟩ := trodAll_cons r0
  obtain ⟨v2, vs2, d2, ds2, p2, q2, rfl, rfl, rfl, h2, r2⟩ := trodAll_cons r1
  obtain ⟨v3, vs3, d3, ds3, p3, q3, rfl, rfl, rfl, h3, r3⟩ := trodAll_cons r2
  obtain ⟨rfl, rfl, rfl⟩ := trodAll_nil r3
  obtain rfl : args = #[v0, v1, v2, v3] := by cases args; simp_all
  obtain ⟨rfl, rfl⟩ := trodVars_none hV
  have k0 := h0
  have lt0 : ∀ x ∈ p0, x.block < W.heap.size := by obtain ⟨m, hm⟩ := k0; exact DataW.trod_lt m _ _ _ hm
  obtain ⟨cs0, ev0, sz0, g0⟩ := v_agg Try.underlying53 (by kernel_rfl) (show Try.prog.cellsOf 53 = 3 by kernel_rfl) (hval 0 53 v0 rfl rfl) h0
  obtain ⟨c0_0, c0_1, c0_2, ecs0⟩ := arr3 (sz0.trans rfl)
  subst ecs0
  subst ev0
  obtain ⟨u0_0, n0_0, y0_0, eu0_0, t0_0⟩ := g0 0 _ rfl
  obtain rfl : c0_0 = u0_0 := by simpa using eu0_0
  obtain ⟨a0_0, ea0_0, wa0_0⟩ := f_int Try.underlying2 t0_0
  subst ea0_0
  obtain ⟨u0_1, n0_1, y0_1, eu0_1, t0_1⟩ := g0 1 _ rfl
  obtain rfl : c0_1 = u0_1 := by simpa using eu0_1
  obtain ⟨a0_1, ea0_1, wa0_1⟩ := f_int Try.underlying2 t0_1
  subst ea0_1
  obtain ⟨u0_2, n0_2, y0_2, eu0_2, t0_2⟩ := g0 2 _ rfl
  obtain rfl : c0_2 = u0_2 := by simpa using eu0_2
  obtain ⟨a0_2, la0_2, ca0_2, za0_2, ea0_2, wa0_2⟩ := f_ints Try.underlying37 Try.underlying2 (by kernel_rfl) t0_2
  subst ea0_2
  have k1 := h1
  have lt1 : ∀ x ∈ p1, x.block < W.heap.size := by obtain ⟨m, hm⟩ := k1; exact DataW.trod_lt m _ _ _ hm
  obtain ⟨a1, ev1, _, _, w1⟩ := open_int Try.underlying2 (hval 1 2 v1 rfl rfl) h1
  subst ev1
  have k2 := h2
  have lt2 : ∀ x ∈ p2, x.block < W.heap.size := by obtain ⟨m, hm⟩ := k2; exact DataW.trod_lt m _ _ _ hm
  obtain ⟨a2, ev2, _, _, w2⟩ := open_int Try.underlying2 (hval 2 2 v2 rfl rfl) h2
  subst ev2
  have k3 := h3
  have lt3 : ∀ x ∈ p3, x.block < W.heap.size := by obtain ⟨m, hm⟩ := k3; exact DataW.trod_lt m _ _ _ hm
  obtain ⟨a3, ev3, _, _, w3⟩ := open_int Try.underlying2 (hval 3 2 v3 rfl rfl) h3
  subst ev3
  clear hA0 hval0
  refine (walk_FnExactCurveOfLand a0_0 a0_1 a0_2 la0_2 ca0_2 za0_2 a1 a2 a3 W wa0_0 wa0_1 wa0_2 w1 w2 w3).mono fun e W' ⟨he, bel⟩ => ?_
  subst he
  exact ⟨_, rfl, _, _, _, [], _, [], hW', trodAll_mk1 (shut_bool Try.underlying4 _), (trodAll_cons_mk (Below.trod laidOut (by kernel_rfl) (of_decide_eq_true (by kernel_rfl)) k0 bel lt0) (trodAll_cons_mk (Below.trod laidOut (by kernel_rfl) (of_decide_eq_true (by kernel_rfl)) k1 bel lt1) (trodAll_cons_mk (Below.trod laidOut (by kernel_rfl) (of_decide_eq_true (by kernel_rfl)) k2 bel lt2) (trodAll_cons_mk (Below.trod laidOut (by kernel_rfl) (of_decide_eq_true (by kernel_rfl)) k3 bel lt3) trodAll_mk0)))), rfl, bel.frame _, fun h => by cases h⟩

theorem over : Rows.fnExactCurveOfLandRow.holds Try.pinned (OpenSpec.ofChange Rows.fnExactCurveOfLandSpec) :=
  OpenClaim.holds_of_wide 8 Try.f8 rfl rfl rfl rfl rfl rfl rfl ⟨rfl, rfl, rfl, rfl, rfl⟩ rfl rfl rfl rfl rfl (by kernel_rfl) Try.func8 (by kernel_rfl)
    (of_decide_eq_true (by kernel_rfl)) (by unfold Func.isWrapper; first | (rw [if_pos (by decide +kernel)]; kernel_rfl) | (rw [if_neg (by decide +kernel)]; exact ⟨rfl, rfl⟩))
    (fun os started H enc _ => lifted os started H enc)

theorem proved : Rows.FnExactCurveOfLandSaid := over
#print axioms proved
end Go.Proofs.Ytcimigaimlojlaa.fnExactCurveOfLand
